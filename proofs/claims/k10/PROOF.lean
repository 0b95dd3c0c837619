import PyProof.Rows.All
import Wide.All
import OpenK.AllK
import Wide.FinOn
import HandS.ForMost
import HandS.ForExc
import HandS.Wide
import HandS.WideBits
import HandS.Deep
import HandS.IsInst
import HandS.Style
import HandS.Set
import HandS.Strs
import HandS.SetFor
import KE.SortData
import HandS.Dict
import KE.KDictSum
import HandS.SetBool
import HandS.Walk
import KE.LtData
import HandS.ExcOwn
import HandS.ExcValue
import PyProof.SumWalk
import PyProof.ListOps
import HandS.More
import HandS.Star
import KE.KRevSl
import HandS.DictComp
import HandS.Comp
import HandS.SortKw
import KE.DataMinMax
import HandS.TupMul
import HandS.TupAny
import PyProof.ReprRoads
import PyProof.ReprLen
import HandS.Defaults
import PyProof.StrBlock2
import HandS.HeadEnd
import PySem.Challenge.RW_depthquestions_k10_whole_questions_judge
set_option Elab.async false
set_option linter.all false
set_option maxRecDepth 100000
set_option maxHeartbeats 4000000
namespace DQ
open PySem PySem.Spec PyProof.Rows L2
def topS (i : Nat) : Stmt := PySem.Challenge.pw_depthquestions_k10_whole_questions_judge.main.body.getD i (.Pass ⟨0, 0, 0, 0⟩)
abbrev sHash : Stmt := topS 31
abbrev sRandom : Stmt := topS 32
abbrev sCell : Stmt := topS 33
abbrev sGenerator : Stmt := topS 34
theorem scHash : FnScope ["seed", "index", "mixed"] ["seed", "index"] (defScope sHash) := ⟨rfl, rfl, rfl, by decide +kernel, rfl, by decide +kernel, by decide +kernel⟩
theorem scRandom : FnScope ["generator", "bound", "drawn", "turn"] ["generator", "bound"] (defScope sRandom) := ⟨rfl, rfl, rfl, by decide +kernel, rfl, by decide +kernel, by decide +kernel⟩
theorem scCell : FnScope ["script", "index"] ["script", "index"] (defScope sCell) := ⟨rfl, rfl, rfl, by decide +kernel, rfl, by decide +kernel, by decide +kernel⟩
theorem scGenerator : FnScope ["script", "index", "seed"] ["script", "index"] (defScope sGenerator) := ⟨rfl, rfl, rfl, by decide +kernel, rfl, by decide +kernel, by decide +kernel⟩
theorem opr_mono {X : Cx} {f : Value → Value → Sem Value} {r r' : R2} (h : OpR X f r) (m : ∀ x y H Q, r' x y H Q → r x y H Q) : OpR X f r' := fun pins s σ H x y v u Q I rx ry q => h pins s σ H x y v u Q I rx ry (m x y H Q q)
/-- a remainder: a letter in its range -/
def rModL : R2 := fun x y H Q => ∃ i j, x = .int i ∧ y = .int j ∧ 0 < j ∧ ∀ r : Int, 0 ≤ r → r < j → r = i % j → Q (.int r) H
theorem op_modL {X : Cx} : OpR X (binaryOp .Mod) rModL := opr_mono op_mod fun x y H Q ⟨i, j, e1, e2, hj, q⟩ => ⟨i, j, e1, e2, hj, q _ (Int.emod_nonneg _ (by omega)) (Int.emod_lt_of_pos _ hj) rfl⟩
section
variable {P : Program} {w : World} {K : PySem.W.Frag} {mg : Str → Option Value} {base : Heap}
/-- the hash: some number below its modulus -/
def spHash : Sp := fun vs H Q _ => ∃ a b : Int, vs = [.int a, .int b] ∧ 0 ≤ a ∧ a < 2147483648 ∧ 0 ≤ b ∧ b ≤ 1073741824 ∧ ∀ r : Int, 0 ≤ r → r < 2147483647 → Q (.int r) H
theorem ok_hash {f : Addr} {fd : FuncData} (F : Fun K "_law_hash" "_law_hash" sHash f fd) (mi : mg "int" = none) : FnOk P w K mg base CX0 1 f fd ["seed", "index"] spHash := by
  refine F.ok scHash (fun vs H Q E h => ?_) (fun cdv A outer s H vs Q E hr h => ?_)
  · obtain ⟨a, b, rfl, _⟩ := h
    rfl
  · obtain ⟨a, b, rfl, ha, ha2, hb, hb2, q⟩ := h
    refine ⟨_, pss_cons (ps_set (i := 2) scHash.nd rfl (.inl rfl)
        (pe_op op_modL (pe_callTy call_int1 (by rfl) mi (by decide +kernel) (pa_cons
          (pe_op op_add (pe_op op_add (pe_op op_add (pe_op op_mul (pv 0) pe_int) (pe_op op_mul (pe_op op_mul pe_int (pv 1)) (pv 1))) (pe_op op_mul pe_int (pv 1))) pe_int) pa_nil)) pe_int))
      (pss_cons (ps_set (i := 2) scHash.nd rfl (.inl rfl)
        (pe_op op_modL (pe_callTy call_int1 (by rfl) mi (by decide +kernel) (pa_cons
          (pe_op op_add (pe_op op_add (pe_op op_mul (pv 2) (pv 2)) (pe_op op_mul pe_int (pv 1))) pe_int) pa_nil)) pe_int))
      (pss_one (ps_ret (pe_op op_modL (pe_callTy call_int1 (by rfl) mi (by decide +kernel) (pa_cons (pe_op op_mul (pv 2) pe_int) pa_nil)) pe_int)))), ?_⟩
    -- seed * c + c * index * index + c * index + c
    refine ⟨_, rfl, _, _, rfl, rfl, .inl ⟨by omega, by omega⟩, ?_⟩
    refine ⟨_, rfl, _, _, rfl, rfl, .inl ⟨by omega, by omega⟩, ?_⟩
    refine ⟨_, rfl, _, _, rfl, rfl, .inl ⟨by omega, by omega⟩, ?_⟩
    refine ⟨_, _, rfl, rfl, _, rfl, _, _, rfl, rfl, .inl ⟨by omega, by omega⟩, ?_⟩
    refine ⟨_, _, rfl, rfl, _, _, rfl, rfl, .inl ⟨_, rfl, _, _, rfl, rfl, by decide, fun m h0 h1 _ => ?_⟩⟩
    -- mixed * mixed + c * index + c
    refine ⟨_, rfl, _, rfl, _, _, rfl, rfl, .inl ⟨by omega, by omega⟩, ?_⟩
    refine ⟨_, rfl, _, _, rfl, rfl, .inl ⟨by omega, by omega⟩, ?_⟩
    refine ⟨_, _, rfl, rfl, _, _, rfl, rfl, .inl ⟨_, rfl, _, _, rfl, rfl, by decide, fun n h2 h3 _ => ?_⟩⟩
    refine ⟨_, rfl, _, _, rfl, rfl, .inl ⟨by omega, by omega⟩, .inl ⟨_, rfl, _, _, rfl, rfl, by decide, fun r h4 h5 _ => q r h4 h5⟩⟩
/-- the generator at g: three numbers, the count of hashed draws at most n -/
def Gen (H : Hp) (g : Addr) (n : Int) : Prop := ∃ a b c : Int, H g = some (.lst [.int a, .int b, .int c]) ∧ 0 ≤ a ∧ a.natAbs < 2 ^ 2000 ∧ 0 ≤ b ∧ b < 2147483647 ∧ 0 ≤ c ∧ c ≤ n
theorem Gen.mono {H : Hp} {g : Addr} {n m : Int} (h : Gen H g n) (k : n ≤ m) : Gen H g m := by
  obtain ⟨a, b, c, e, h1, h2, h3, h4, h5, h6⟩ := h
  exact ⟨a, b, c, e, h1, h2, h3, h4, h5, by omega⟩
/-- all but what stands at g is as it was -/
def But (g : Addr) (H H' : Hp) : Prop := ∀ b, b ≠ g → H' b = H b
def spRandom : Sp := fun vs H Q _ => ∃ (g : Addr) (m n : Int), vs = [.ref g, .int m] ∧ Gen H g n ∧ 1 ≤ m ∧ m < 618970019642690137449562112 ∧ n + 3 ≤ 1073741824 ∧
  ∀ (r : Int) (H' : Hp), 0 ≤ r → r < m → Gen H' g (n + 3) → But g H H' → Q (.int r) H'
/-- how great the drawn number is after so many turns -/
def top : Nat → Int
  | 0 => 1
  | 1 => 4294967296
  | 2 => 18446744073709551616
  | _ => 79228162514264337593543950336
theorem top_next {d : Int} {i : Nat} (d0 : 0 ≤ d) (h : d < top i) (hi : i < 3) : d < 79228162514264337593543950336 ∧ ∀ r : Int, r < 2147483647 → d * 2147483587 + r < top (i + 1) := by
  match i, hi with
  | 0, _ => simp only [top] at h ⊢; exact ⟨by omega, fun r hr => by omega⟩
  | 1, _ => simp only [top] at h ⊢; exact ⟨by omega, fun r hr => by omega⟩
  | 2, _ => simp only [top] at h ⊢; exact ⟨by omega, fun r hr => by omega⟩
theorem gen_set {H : Hp} {g : Addr} {o : HO} : But g H (upd H g o) := fun _ h => upd_ne h
theorem ok_random {f fh : Addr} {fd fdh : FuncData} (F : Fun K "_law_random" "_law_random" sRandom f fd) (G : FnOk P w K mg base CX0 1 fh fdh ["seed", "index"] spHash) (bh : Binds K fdh ["seed", "index"] []) (kh : PySem.W.keepIn K (.ref fh) = true) (mh : mg "_law_hash" = some (.ref fh))
    (mi : mg "int" = none) (mr : mg "range" = none) : FnOk P w K mg base CX0 2 f fd ["generator", "bound"] spRandom := by
  refine F.ok scRandom (fun vs H Q E h => ?_) (fun cdv A outer s H vs Q E hr h => ?_)
  · obtain ⟨g, m, n, rfl, _⟩ := h
    rfl
  obtain ⟨g, m, n, rfl, ⟨a, b, c, eg, a0, a1, b0, b1, c0, c1⟩, m1, m2, hn, q⟩ := h
  have nd := scRandom.nd
  refine ⟨_, pss_cons (ps_if (pt_cmpR op_gt (pe_ix ix_list (pv 0) pe_int (fun _ _ => rfl)) pe_int (nomark _))
      (pss_cons (ps_set (i := 2) nd rfl (.inl rfl) (pe_op op_modL (pe_callTy call_int1 (by rfl) mi (by decide +kernel) (pa_cons (pe_ix ix_list (pv 0) pe_int (fun _ _ => rfl)) pa_nil)) (pv 1)))
      (pss_cons (ps_asg (pe_op op_fdivW (pe_ix ix_list (pv 0) pe_int (fun _ _ => rfl)) (pv 1)) (pg_sub (pv 0) pe_int set_list))
      (pss_one (ps_ret (pv 2))))) pss_nil)
    (pss_cons (ps_set (i := 2) nd rfl (.inl rfl) pe_int)
    (pss_cons (ps_for PassesOwn.never rfl (pi_range1 (by rfl) mr (pa_cons (pe_op op_add pe_int (pe_op op_fdiv (pe_bits (pv 1)) pe_int)) pa_nil)) (pg_name (i := 3) nd rfl (.inl rfl))
      (pss_cons (ps_asg (pe_op op_add (pe_ix ix_list (pv 0) pe_int (fun _ _ => rfl)) pe_int) (pg_sub (pv 0) pe_int set_list))
      (pss_one (ps_set (i := 2) nd rfl (.inl rfl) (pe_op op_add (pe_op op_mulW (pv 2) pe_int)
        (pe_call G (hr.mono (by decide)) rfl mh kh bh .nil pass0 (pa_cons (pe_ix ix_list (pv 0) pe_int (fun _ _ => rfl)) (pa_cons (pe_ix ix_list (pv 0) pe_int (fun _ _ => rfl)) pa_nil))))))))
    (pss_one (ps_ret (pe_op op_modL (pe_callTy call_int1 (by rfl) mi (by decide +kernel) (pa_cons (pv 2) pa_nil)) (pv 1)))))), ?_⟩
  have L : SqL K H g [.int a, .int b, .int c] := SqL.of eg
  refine ⟨_, rfl, g, _, _, _, rfl, rfl, L, rfl, _, _, rfl, rfl, _, rfl, ite2 (fun ha => ?_) fun ha => ?_⟩
  · -- digits of the seed
    refine ⟨_, rfl, g, _, _, _, rfl, rfl, L, rfl, .inl ⟨_, rfl, _, rfl, _, _, rfl, rfl, by omega, fun r r0 r1 _ => ?_⟩⟩
    refine ⟨_, rfl, g, _, _, _, rfl, rfl, L, rfl, _, rfl, _, _, rfl, rfl, wide_div (b := 90) (by omega) (by omega) (by decide) (by decide), _, rfl, g, _, _, _, rfl, rfl, eg, rfl, ?_⟩
    refine ⟨_, rfl, ?_⟩
    refine q r _ r0 r1 ⟨_, _, _, upd_same, Int.ediv_nonneg a0 (by omega), ?_, b0, b1, c0, by omega⟩ gen_set
    have h1 : a / m ≤ a := Int.ediv_le_self _ a0
    have h2 : 0 ≤ a / m := Int.ediv_nonneg a0 (by omega)
    exact wide_le h2 h1 a1
  · -- hashed
    have hb1 := intBits_le (a := m) (k := 89) (by omega)
    have hb0 : (0 : Int) ≤ ((Builtin.Int.intBits m : Nat) : Int) := Int.natCast_nonneg _
    have hb2 : ((Builtin.Int.intBits m : Nat) : Int) / 30 ≤ 2 := by omega
    have hb3 : 0 ≤ ((Builtin.Int.intBits m : Nat) : Int) / 30 := by omega
    refine ⟨_, rfl, _, rfl, _, _, rfl, rfl, ⟨by decide, by decide⟩, _, _, rfl, rfl, _, rfl, by omega, by omega, ?_⟩
    generalize ((Builtin.Int.intBits m : Nat) : Int) / 30 = z at hb2 hb3
    refine for_range (lo := 0) (n := (1 + z).toNat) (fun i σ H1 => ∃ (d : Int) (y : Option V), σ = [some (.ref g), some (.int m), some (.int d), y] ∧ 0 ≤ d ∧ d < top i ∧ (∃ c' : Int, H1 g = some (.lst [.int a, .int b, .int c']) ∧ 0 ≤ c' ∧ c' ≤ c + i) ∧ But g H H1)
      ⟨0, none, rfl, by decide, by decide, ⟨c, eg, c0, by omega⟩, fun _ _ => rfl⟩ (fun i σ H1 hi hP => ?_) (fun σ H1 hP => ?_)
    · obtain ⟨d, y, rfl, d0, d1, ⟨c', e1, c2, c3⟩, bt⟩ := hP
      have L1 : SqL K H1 g [.int a, .int b, .int c'] := SqL.of e1
      -- generator[2] = generator[2] + 1
      refine ⟨_, rfl, g, _, _, _, rfl, rfl, L1, rfl, _, _, rfl, rfl, _, rfl, g, _, _, _, rfl, rfl, e1, rfl, ?_⟩
      have L2 : SqL K (upd H1 g (.lst [.int a, .int b, .int (c' + 1)])) g [.int a, .int b, .int (c' + 1)] := SqL.of upd_same
      have hd := top_next d0 d1 (show i < 3 by omega)
      refine ⟨_, rfl, d, 2147483587, rfl, rfl, wide_mul (a := 96) (b := 32) (by omega) (by decide) (by decide) (by decide) (by decide), ?_⟩
      refine ⟨_, rfl, g, _, _, _, rfl, rfl, L2, rfl, _, rfl, g, _, _, _, rfl, rfl, L2, rfl, ?_⟩
      refine ⟨_, _, rfl, b0, by omega, by omega, by omega, fun r r0 r1 => ?_⟩
      refine ⟨_, _, rfl, rfl, _, _, rfl, by omega, hd.2 r r1, ⟨c' + 1, upd_same, by omega, by omega⟩, fun x hx => ?_⟩
      · rw [upd_ne hx]
        exact bt x hx
    · obtain ⟨d, y, rfl, d0, d1, ⟨c', e1, c2, c3⟩, bt⟩ := hP
      refine ⟨_, rfl, .inl ⟨_, rfl, _, rfl, _, _, rfl, rfl, by omega, fun r r0 r1 _ => ?_⟩⟩
      exact q r _ r0 r1 ⟨a, b, c', e1, a0, a1, b0, b1, c2, by omega⟩ bt
theorem same_new {H : Hp} {p : Addr} {o : HO} (h : H p = none) : Same H (upd H p o) := fun b x e => by
  rw [upd_ne (ne_of_none e h)]
  exact e
def spCell (K : PySem.W.Frag) : Sp := fun vs H Q _ => ∃ (a : Addr) (ns : List Int) (i : Nat), vs = [.ref a, .int i] ∧ SqL K H a (ns.map V.int) ∧ ∀ (r : Int) (H' : Hp), Same H H' → Q (.int r) H'
theorem ok_cell {f : Addr} {fd : FuncData} (F : Fun K "_law_cell" "_law_cell" sCell f fd) (ml : mg "len" = none) (ms : mg "sum" = none) : FnOk P w K mg base CX0 1 f fd ["script", "index"] (spCell K) := by
  refine F.ok scCell (fun vs H Q E h => ?_) (fun cdv A outer s H vs Q E hr h => ?_)
  · obtain ⟨a, ns, i, rfl, _⟩ := h
    rfl
  obtain ⟨a, ns, i, rfl, L, q⟩ := h
  refine ⟨_, pss_cons (ps_if (pt_cmpR op_lt (pv 1) (pe_callB call_len_seq (by rfl) ml PySem.boot_len (pa_cons (pv 0) pa_nil)) (nomark _)) (pss_one (ps_ret (pe_ix ix_list (pv 0) (pv 1) (fun _ _ => rfl)))) pss_nil)
    (pss_one (ps_ret (pe_op op_modL (pe_callB (cr_sum rfl) (by rfl) ms (by decide +kernel) (pa_cons (pe_slice sl_list (pv 0) po_none (po_some pe_int)) pa_nil)) pe_int))), ?_⟩
  refine ⟨_, rfl, _, rfl, a, _, rfl, .inl L, _, _, rfl, rfl, _, rfl, ite2 (fun hi => ?_) fun _ => ?_⟩
  · have hl : i < ns.length := by
      have e := of_decide_eq_true hi
      rw [List.length_map] at e
      omega
    refine ⟨_, rfl, _, rfl, a, _, _, _, rfl, rfl, L, atI_nat (v := .int ns[i]) ?_, q _ _ (Same.refl _)⟩
    rw [List.getElem?_map, List.getElem?_eq_getElem hl]
    rfl
  · refine ⟨_, rfl, 1, rfl, a, _, rfl, L, fun p hp => ?_⟩
    have e : cutV (ns.map V.int) none (some 1) = (ns.take (HT.sIx (ns.map V.int).length (ns.map V.int).length (some 1) - HT.sIx (ns.map V.int).length 0 none) |>.map V.int) := by
      unfold cutV
      rw [HT.sIx_none, List.drop_zero, List.map_take]
    rw [e]
    exact ⟨p, _, rfl, SqL.of upd_same, _, _, rfl, rfl, by decide, fun r _ _ _ => q r _ (same_new hp)⟩
theorem op_powW {X : Cx} : OpR X (binaryOp .Pow) (rI (fun i j => 0 ≤ j ∧ (Builtin.Int.intBits i : Int) * j ≤ 2 ^ 27) fun i j => .int (i ^ j.toNat)) := opI fun _ _ _ _ _ _ _ hc q => pow_int hc.1 hc.2 q
def spGenerator (K : PySem.W.Frag) : Sp := fun vs H Q _ => ∃ (a : Addr) (ns : List Int) (i : Nat), vs = [.ref a, .int i] ∧ i ≤ 100 ∧ SqL K H a (ns.map V.int) ∧ ∀ (p : Addr) (H' : Hp), Same H H' → H p = none → Gen H' p (1000 * i) → Q (.ref p) H'
theorem ok_generator {f fc : Addr} {fd fdc : FuncData} (F : Fun K "_law_generator" "_law_generator" sGenerator f fd) (G : FnOk P w K mg base CX0 1 fc fdc ["script", "index"] (spCell K)) (bc : Binds K fdc ["script", "index"] []) (kc : PySem.W.keepIn K (.ref fc) = true) (mc : mg "_law_cell" = some (.ref fc))
    (mi : mg "int" = none) (mm : mg "max" = none) : FnOk P w K mg base CX0 2 f fd ["script", "index"] (spGenerator K) := by
  refine F.ok scGenerator (fun vs H Q E h => ?_) (fun cdv A outer s H vs Q E hr h => ?_)
  · obtain ⟨a, ns, i, rfl, _⟩ := h
    rfl
  obtain ⟨a, ns, i, rfl, hi, L, q⟩ := h
  refine ⟨_, pss_cons (ps_set (i := 2) scGenerator.nd rfl (.inl rfl) (pe_call G (hr.mono (by decide)) rfl mc kc bc .nil pass0 (pa_cons (pv 0) (pa_cons (pv 1) pa_nil))))
    (pss_one (ps_ret (pe_lst (pa_cons (pe_op op_modL (pe_callTy call_int1 (by rfl) mi (by decide +kernel) (pa_cons (pe_callB (call_max2 rfl) (by rfl) mm (by decide +kernel) (pa_cons (pe_op op_sub (pv 2) (pe_op op_pow pe_int pe_int)) (pa_cons pe_int pa_nil))) pa_nil)) (pe_op op_powW (pe_op op_pow pe_int pe_int) pe_int))
      (pa_cons (pe_op op_modL (pe_callTy call_int1 (by rfl) mi (by decide +kernel) (pa_cons (pv 2) pa_nil)) pe_int) (pa_cons (pe_op op_mul pe_int (pv 1)) pa_nil)))))), ?_⟩
  refine ⟨_, rfl, _, rfl, a, ns, i, rfl, L, fun seed H1 s1 => ?_⟩
  refine ⟨_, rfl, _, _, rfl, rfl, ⟨by decide, by decide, by decide⟩, _, _, rfl, rfl, _, _, rfl, .inl ⟨_, rfl, ?_⟩⟩
  refine ⟨_, _, rfl, rfl, ⟨by decide, by decide, by decide⟩, _, _, rfl, rfl, ⟨by decide, by decide +kernel⟩, ?_⟩
  refine ⟨_, _, rfl, rfl, by decide +kernel, fun x x0 x1 _ => ?_⟩
  refine ⟨_, rfl, .inl ⟨_, rfl, _, _, rfl, rfl, by decide, fun y y0 y1 _ => ?_⟩⟩
  refine ⟨_, rfl, _, _, rfl, rfl, .inl ⟨by decide, by decide⟩, ?_⟩
  refine ⟨by show 3 ≤ sizeLine; decide, fun p hp => ?_⟩
  refine q p _ (s1.trans (same_new hp)) (s1.free hp) ⟨x, y, _, upd_same, x0, ?_, y0, y1, by omega, by omega⟩
  exact wide_le x0 (Int.le_of_lt x1) (by decide +kernel)
end
end DQ

set_option Elab.async false
set_option linter.all false
set_option maxRecDepth 100000
set_option maxHeartbeats 1000000
namespace DQ
open PySem PySem.Spec PyProof.Rows
open L2 (Hp V VK XK R2 OpR SqL SqT Inv RelV Vals HOk Cx)
/-! ### data on the heap, empty dicts among it -/
mutual
inductive Dp (K : PySem.W.Frag) (H : Hp) : V → PyData → Prop
  | non : Dp K H .non .none
  | bl (b : Bool) : Dp K H (.bl b) (.bool b)
  | int (i : Int) : Dp K H (.int i) (.int i)
  | str (x : Str) : Dp K H (.str x) (.str x)
  | lst {a : Addr} {xs : List V} {ds : List PyData} (h : SqL K H a xs) (r : DpAll K H xs ds) : Dp K H (.ref a) (.list ds)
  | tup {a : Addr} {xs : List V} {ds : List PyData} (h : SqT K H a xs) (r : DpAll K H xs ds) : Dp K H (.ref a) (.tuple ds)
  | dct {a : Addr} (h : H a = some (.dK [])) : Dp K H (.ref a) (.dict [])
inductive DpAll (K : PySem.W.Frag) (H : Hp) : List V → List PyData → Prop
  | nil : DpAll K H [] []
  | cons {v : V} {vs : List V} {d : PyData} {ds : List PyData} (h : Dp K H v d) (r : DpAll K H vs ds) : DpAll K H (v :: vs) (d :: ds)
end
mutual
theorem Dp.old {K : PySem.W.Frag} {H : Hp} : ∀ (d : PyData) {v : V}, Dp K H v d → d.hasDict = false → L2.Dp K H v d
  | .none, _, h, _ => by cases h; exact .non
  | .bool b, _, h, _ => by cases h; exact .bl b
  | .int i, _, h, _ => by cases h; exact .int i
  | .str x, _, h, _ => by cases h; exact .str x
  | .list ds, _, h, n => by
    cases h with
    | lst h r => exact .lst h (DpAll.old ds r (by simpa only [PyData.hasDict] using n))
  | .tuple ds, _, h, n => by
    cases h with
    | tup h r => exact .tup h (DpAll.old ds r (by simpa only [PyData.hasDict] using n))
  | .dict _, _, _, n => by simp [PyData.hasDict] at n
theorem DpAll.old {K : PySem.W.Frag} {H : Hp} : ∀ (ds : List PyData) {vs : List V}, DpAll K H vs ds → PyData.hasDictAll ds = false → L2.DpAll K H vs ds
  | [], _, h, _ => by cases h; exact .nil
  | d :: ds, _, h, n => by
    simp only [PyData.hasDictAll, Bool.or_eq_false_iff] at n
    cases h with
    | cons a b => exact .cons (Dp.old d a n.1) (DpAll.old ds b n.2)
end
mutual
theorem Dp.reads {X : Cx} {pins : List (Addr × Obj)} {σ : L2.St} {H : Hp} {s : Shared} (I : Inv X pins σ H s) : ∀ (d : PyData) (v : V) (u : Value), Dp X.K H v d → RelV v u → ∃ as, Reads s.heap u d as
  | .none, _, _, h, r => by cases h; cases r; exact ⟨_, Reads.none⟩
  | .bool b, _, _, h, r => by cases h; cases r; exact ⟨_, Reads.bool b⟩
  | .int i, _, _, h, r => by
    cases h
    obtain ⟨t, rfl⟩ := r
    exact ⟨_, Reads.int i t⟩
  | .str x, _, _, h, r => by
    cases h
    obtain ⟨t, rfl⟩ := r
    exact ⟨_, Reads.str x t⟩
  | .list ds, _, _, h, r => by
    cases h with
    | lst hs ha =>
      obtain rfl : _ = Value.ref _ := r
      obtain ⟨its, rv, ⟨o, n, ho, hc, _, hd⟩, _⟩ := I.list hs
      obtain ⟨as, hr⟩ := DpAll.reads I ds _ its ha rv
      exact ⟨_, Reads.list ho hc hd hr⟩
  | .tuple ds, _, _, h, r => by
    cases h with
    | tup hs ha =>
      obtain rfl : _ = Value.ref _ := r
      obtain ⟨its, rv, ⟨o, ho, hc, n, hd⟩, _⟩ := I.tuple hs
      obtain ⟨as, hr⟩ := DpAll.reads I ds _ its ha rv
      exact ⟨_, Reads.tuple ho hc hd hr⟩
  | .dict kvs, _, _, h, r => by
    cases h with
    | dct hs =>
      obtain rfl : _ = Value.ref _ := r
      obtain ⟨_, _, vs, kv, o, es, ep, ho, ex, hd, _, ps, _⟩ := L2.dk_of I.hok hs
      have e0 : vs = [] := by
        cases kv
        rfl
      subst e0
      have l := PySem.Pairs.length ps
      have e1 : es.toList = [] := List.length_eq_zero_iff.mp (by simpa using l)
      refine ⟨_, Reads.dict ho ex.1 hd (as := []) (bs := []) ?_ ?_⟩
      · rw [e1]
        exact ReadsAll.nil
      · rw [e1]
        exact ReadsAll.nil
theorem DpAll.reads {X : Cx} {pins : List (Addr × Obj)} {σ : L2.St} {H : Hp} {s : Shared} (I : Inv X pins σ H s) : ∀ (ds : List PyData) (vs : List V) (us : List Value), DpAll X.K H vs ds → Vals vs us → ∃ as, ReadsAll s.heap us ds as
  | [], _, _, h, r => by cases h; cases r; exact ⟨_, ReadsAll.nil⟩
  | d :: ds, _, _, h, r => by
    cases h with
    | cons h1 h2 =>
      cases r with
      | cons r1 r2 =>
        obtain ⟨as, q1⟩ := Dp.reads I d _ _ h1 r1
        obtain ⟨bs, q2⟩ := DpAll.reads I ds _ _ h2 r2
        exact ⟨_, ReadsAll.cons q1 q2⟩
end
theorem shaped_plain {d : PyData} (h : SeqAt.shaped d = true) : d.hasDict = false := PyData.hasDict_of_canLay d (SeqAt.canLay_of_shaped h)
section
variable {X : Cx}
def rEqD (K : PySem.W.Frag) : R2 := fun x y H Q => ∃ d e, Dp K H x d ∧ Dp K H y e ∧ SeqAt.shaped d = true ∧ SeqAt.shaped e = true ∧ Q (.bl (PyData.eqv d e)) H
def rNeD (K : PySem.W.Frag) : R2 := fun x y H Q => ∃ d e, Dp K H x d ∧ Dp K H y e ∧ SeqAt.shaped d = true ∧ SeqAt.shaped e = true ∧ Q (.bl (!PyData.eqv d e)) H
theorem op_eqD (hu : X.A.units + 64 < cLine) : OpR X (compareOp .Eq) (rEqD X.K) := opr_mono (L2.op_eqD hu) fun x y H Q ⟨d, e, hd, he, sd, se, q⟩ => ⟨d, e, hd.old d (shaped_plain sd), he.old e (shaped_plain se), sd, se, q⟩
theorem op_neD (hu : X.A.units + 64 < cLine) : OpR X (compareOp .NotEq) (rNeD X.K) := opr_mono (L2.op_neD hu) fun x y H Q ⟨d, e, hd, he, sd, se, q⟩ => ⟨d, e, hd.old d (shaped_plain sd), he.old e (shaped_plain se), sd, se, q⟩
def rInD (K : PySem.W.Frag) : R2 := fun x y H Q => ∃ d ds, Dp K H x d ∧ Dp K H y (.list ds) ∧ SeqAt.shaped d = true ∧ SeqAt.shaped (.list ds) = true ∧ Q (.bl (ds.any fun z => PyData.eqv z d)) H
def rNotInD (K : PySem.W.Frag) : R2 := fun x y H Q => ∃ d ds, Dp K H x d ∧ Dp K H y (.list ds) ∧ SeqAt.shaped d = true ∧ SeqAt.shaped (.list ds) = true ∧ Q (.bl (!ds.any fun z => PyData.eqv z d)) H
theorem op_inD (hu : X.A.units + 65 < cLine) : OpR X (compareOp .In) (rInD X.K) := opr_mono (L2.op_inD hu) fun x y H Q ⟨d, ds, hd, he, sd, se, q⟩ => ⟨d, ds, hd.old d (shaped_plain sd), he.old _ (shaped_plain se), sd, se, q⟩
theorem op_notInD (hu : X.A.units + 65 < cLine) : OpR X (compareOp .NotIn) (rNotInD X.K) := opr_mono (L2.op_notInD hu) fun x y H Q ⟨d, ds, hd, he, sd, se, q⟩ => ⟨d, ds, hd.old d (shaped_plain sd), he.old _ (shaped_plain se), sd, se, q⟩
end
end DQ

set_option Elab.async false
set_option linter.all false
set_option maxRecDepth 100000
set_option maxHeartbeats 4000000
namespace DQ
open PySem PySem.Spec PyProof.Rows L2
/-! ### data read off the heap -/
theorem dp_ints {K : PySem.W.Frag} {H : Hp} : ∀ ns : List Int, DpAll K H (ns.map V.int) (ns.map PyData.int)
  | [] => .nil
  | n :: r => .cons (.int n) (dp_ints r)
theorem flat_ints : ∀ ns : List Int, PyData.canLayAll0 (ns.map PyData.int) = true ∧ PyData.depthAll (ns.map PyData.int) = 0
  | [] => ⟨rfl, rfl⟩
  | n :: r => ⟨by show (true && PyData.canLayAll0 (r.map PyData.int)) = true; rw [(flat_ints r).1]; rfl, by show max 0 (PyData.depthAll (r.map PyData.int)) = 0; rw [(flat_ints r).2]; rfl⟩
theorem shaped_of {d : PyData} (h1 : d.canLay0 = true) (h2 : d.depth ≤ 64) : SeqAt.shaped d = true := by
  unfold SeqAt.shaped
  rw [h1, decide_eq_true h2]
  rfl
theorem shaped_ints (ns : List Int) : SeqAt.shaped (.list (ns.map PyData.int)) = true := shaped_of (flat_ints ns).1 (by show PyData.depthAll (ns.map PyData.int) + 1 ≤ 64; rw [(flat_ints ns).2]; decide)
/-- all but what stands at g stays, new things may come -/
def Keep (g : Addr) (H H' : Hp) : Prop := ∀ b o, b ≠ g → H b = some o → H' b = some o
theorem Keep.refl (g : Addr) (H : Hp) : Keep g H H := fun _ _ _ h => h
theorem Keep.trans {g : Addr} {H H1 H2 : Hp} (a : Keep g H H1) (b : Keep g H1 H2) : Keep g H H2 := fun c o n h => b c o n (a c o n h)
theorem Keep.of_same {g : Addr} {H H' : Hp} (s : Same H H') : Keep g H H' := fun b o _ h => s b o h
theorem Keep.of_but {g : Addr} {H H' : Hp} (s : But g H H') : Keep g H H' := fun b o n h => (s b n).trans h
theorem Keep.seq {K : PySem.W.Frag} {g a : Addr} {H H' : Hp} {xs : List V} (k : Keep g H H') (ne : a ≠ g) (h : SqL K H a xs) : SqL K H' a xs := by
  rcases h with (h | ⟨o, h⟩) | h
  · exact .inl (.inl (k _ _ ne h))
  · exact .inl (.inr ⟨o, k _ _ ne h⟩)
  · exact .inr h
theorem Gen.at {H : Hp} {g : Addr} {n : Int} (h : Gen H g n) : ∃ o, H g = some o := let ⟨_, _, _, e, _⟩ := h; ⟨_, e⟩
theorem Gen.same {H H' : Hp} {g : Addr} {n : Int} (h : Gen H g n) (s : Same H H') : Gen H' g n := by
  obtain ⟨a, b, c, e, r⟩ := h
  exact ⟨a, b, c, s _ _ e, r⟩
theorem Gen.upd {H : Hp} {g b : Addr} {n : Int} {o : HO} (h : Gen H g n) (ne : g ≠ b) : Gen (upd H b o) g n := by
  obtain ⟨x, y, c, e, r⟩ := h
  exact ⟨x, y, c, by rw [upd_ne ne]; exact e, r⟩
theorem Gen.ne {H : Hp} {g p : Addr} {n : Int} (h : Gen H g n) (hp : H p = none) : p ≠ g := fun e => by
  obtain ⟨o, z⟩ := h.at
  rw [← e, hp] at z
  cases z
theorem But.free {g p : Addr} {H H' : Hp} {n : Int} (k : But g H H') (G : Gen H g n) (h : H p = none) : H' p = none := (k p (G.ne h)).trans h
/-- what was free before is free unless something was put there -/
theorem Keep.free {g p : Addr} {H H' : Hp} (k : Keep g H H') (G : ∃ o, H g = some o) (h : H' p = none) (hg : ∃ o, H' g = some o) : H p = none := by
  by_cases e : p = g
  · obtain ⟨o, z⟩ := hg
    rw [e, z] at h
    cases h
  · cases q : H p with
    | none => rfl
    | some o =>
      rw [k p o e q] at h
      cases h
theorem perm_erase {α : Type} : ∀ {l : List α} {k : Nat} {y : α}, l[k]? = some y → (y :: l.eraseIdx k).Perm l
  | [], k, y, h => by simp at h
  | x :: l, 0, y, h => by
    have e : x = y := by simpa using h
    subst e
    exact List.Perm.refl _
  | x :: l, k + 1, y, h => by
    have h' : l[k]? = some y := by simpa using h
    exact (List.Perm.swap x y (l.eraseIdx k)).trans ((perm_erase h').cons x)
theorem seq_at {r : Int} {m : Nat} (h0 : 0 ≤ r) (h1 : r < m) : seqIndex? r m = some r.toNat := by
  show (if (decide (0 ≤ (if r < 0 then r + m else r)) && decide ((if r < 0 then r + m else r) < m)) = true then some (if r < 0 then r + m else r).toNat else none) = _
  rw [if_neg (show ¬ r < 0 by omega), decide_eq_true h0, decide_eq_true h1]
  rfl
/-- how long the list at l is -/
def size (H : Hp) (l : Addr) : Nat := match H l with
  | some (.lst xs) => xs.length
  | _ => 0
theorem size_of {H : Hp} {l : Addr} {xs : List V} (h : H l = some (.lst xs)) : size H l = xs.length := by
  unfold size
  rw [h]
theorem map_erase {α β : Type} (f : α → β) : ∀ (l : List α) (k : Nat), (l.map f).eraseIdx k = (l.eraseIdx k).map f
  | [], _ => rfl
  | _ :: _, 0 => rfl
  | x :: l, k + 1 => congrArg (f x :: ·) (map_erase f l k)
end DQ

set_option Elab.async false
set_option linter.all false
set_option maxRecDepth 100000
set_option maxHeartbeats 2000000
namespace DQ
open PySem PySem.Spec PyProof.Rows L2
/-! ### sets of texts: what they are, a text put in -/
/-- a text and its token, as a set has them -/
def rowX (P : Program) (w : World) (f : Str × Tok) : Int × Value := ((PySem.strKind P w).hash f.1, .str f.1 f.2)
def RowsX (P : Program) (w : World) (l : List (Int × Value)) (L : List Str) : Prop := ∃ fs : List (Str × Tok), l.Perm (fs.map (rowX P w)) ∧ fs.map (·.1) = L
section
variable {P : Program} {w : World}
theorem isX (x : Str) (f : Str × Tok) : (PySem.strKind P w).is x (rowX P w f).2 = true ↔ f.1 = x := by
  rw [KeyKind.is_eq_decide (show (PySem.strKind P w).is f.1 (rowX P w f).2 = true from strKind_is P w f.1 f.2) x, decide_eq_true_eq]
  exact eq_comm
theorem RowsX.elems {l : List (Int × Value)} {L : List Str} (R : RowsX P w l L) : ElemsOf (PySem.strKind P w) l := fun e he => by
  obtain ⟨fs, pm, _⟩ := R
  obtain ⟨f, _, rfl⟩ := List.mem_map.mp (pm.mem_iff.mp he)
  exact ⟨⟨f.1, strKind_is P w f.1 f.2, rfl⟩, rfl⟩
theorem RowsX.mem {l : List (Int × Value)} {L : List Str} (R : RowsX P w l L) (x : Str) : x ∈ L ↔ ∃ e ∈ l, (PySem.strKind P w).is x e.2 = true := by
  obtain ⟨fs, pm, rfl⟩ := R
  constructor
  · intro m
    obtain ⟨f, hf, e⟩ := List.mem_map.mp m
    exact ⟨_, pm.mem_iff.mpr (List.mem_map.mpr ⟨f, hf, rfl⟩), (isX x f).mpr e⟩
  · rintro ⟨e, he, i⟩
    obtain ⟨f, hf, rfl⟩ := List.mem_map.mp (pm.mem_iff.mp he)
    exact List.mem_map.mpr ⟨f, hf, (isX x f).mp i⟩
theorem RowsX.size {l : List (Int × Value)} {L : List Str} (R : RowsX P w l L) : l.length = L.length := by
  obtain ⟨fs, pm, rfl⟩ := R
  rw [pm.length_eq, List.length_map, List.length_map]
theorem RowsX.perm {l m : List (Int × Value)} {L : List Str} (R : RowsX P w l L) (p : m.Perm l) : RowsX P w m L := R.imp fun _ z => ⟨p.trans z.1, z.2⟩
theorem RowsX.cons {l m : List (Int × Value)} {L : List Str} (R : RowsX P w l L) (x : Str) (tk : Tok) (p : m.Perm (l ++ [rowX P w (x, tk)])) : RowsX P w m (x :: L) := by
  obtain ⟨fs, pm, e⟩ := R
  exact ⟨(x, tk) :: fs, (p.trans (List.perm_append_singleton _ _)).trans (pm.cons _), by rw [List.map_cons, e]⟩
/-- the set of texts at a -/
structure SetX (P : Program) (w : World) (h : Heap) (a : Addr) (L : List Str) : Prop where
  ex : ∃ (o : Obj) (es : Array (Int × Value)) (ep : Nat) (t : SetTable), h.get? a = some o ∧ o.ExactSet ∧ o.data = .set es ep t ∧ RowsX P w es.toList L ∧ es.size < scanBound ∧ t.fits es.size = true ∧ Ris t.place.toList ∧ (w.params.followText "set-order" = true ∨ t.led = true)
  nd : L.Nodup
theorem SetX.stays {h h' : Heap} {a : Addr} {L : List Str} (M : SetX P w h a L) (k : ∀ o, h.get? a = some o → h'.get? a = some o) : SetX P w h' a L := by
  obtain ⟨⟨o, es, ep, t, ho, r⟩, nd⟩ := M
  exact ⟨⟨o, es, ep, t, k o ho, r⟩, nd⟩
variable {A : Around} {E : Value → Shared → Prop} {s : Shared} {a : Addr}
theorem quiet_rule (b : Bool) (x : String) {s₁ : Shared} {Q : Unit → Shared → Prop} (q : Q () s₁) : wpAny (model P w) A (match b with | true => rule x | false => pure ()) Q E s₁ := by
  cases b
  · exact wpAny_pure q
  · exact wpAny_rule q
theorem laid_in {g : Bool → Sem Unit} (hg : ∀ (b : Bool) (s₁ : Shared) (Q : Unit → Shared → Prop), Q () s₁ → wpAny (model P w) A (g b) Q E s₁)
    {o : Obj} {es es1 : Array (Int × Value)} {ep : Nat} {t t2 : SetTable} {L : List Str} (ho : s.heap.get? a = some o) (hex : o.ExactSet) (hd : o.data = .set es ep t) (R : RowsX P w es1.toList L) (nd : L.Nodup) (few : es1.size < scanBound) (ft : t2.fits es1.size = true) (ris : Ris t2.place.toList)
    (ld : w.params.followText "set-order" = true ∨ t2.led = true) {wasDummy : Bool} {Q : Option Bool → Shared → Prop} (q : ∀ h', Heap.SameBut a s.heap h' → SetX P w h' a L → Q (some true) { s with heap := h' }) :
    wpAny (model P w) A (do
      storeSet a es1 t2
      if (!wasDummy && t2.tooFull) = true then do
          g (relayAll t2 es1 (SetTable.grown es1.size)).2.2
          storeSet a (relayAll t2 es1 (SetTable.grown es1.size)).1 (relayAll t2 es1 (SetTable.grown es1.size)).2.1
          pure (some true)
        else pure (some true)) Q E s := by
  have here := store_at (es' := es1) (t' := t2) ho hd
  have sb := Heap.SameBut.update s.heap a (Obj.putSet es1 t2)
  refine wpAny_bind (wpAny_storeSet_of ho hd ?_ (fits_of_scanBound few))
  by_cases z : (!wasDummy && t2.tooFull) = true
  · refine wp_if_pos z ?_
    have p1 := relayAll_perm t2 es1 (SetTable.grown es1.size)
    have p2 := relayAll_fits t2 es1 (SetTable.grown es1.size)
    have p3 := relayAll_ris t2 es1 (SetTable.grown es1.size)
    have p4 := relayAll_led t2 es1 (SetTable.grown es1.size)
    revert p1 p2 p3 p4
    generalize relayAll t2 es1 (SetTable.grown es1.size) = Z
    obtain ⟨es2, t3, gave⟩ := Z
    intro p1 p2 p3 p4
    have few2 : es2.size < scanBound := by
      rw [← Array.length_toList, p1.length_eq, Array.length_toList]; exact few
    refine wpAny_bind (hg _ _ _ (wpAny_bind (wpAny_storeSet_of here rfl ?_ (fits_of_scanBound few2))))
    exact wpAny_pure (q _ (sb.trans (Heap.SameBut.update _ a _)) ⟨⟨_, es2, _, t3, store_at here rfl, hex, rfl, R.perm p1, few2, p2, p3, ld.imp id fun e => p4.trans e⟩, nd⟩)
  · exact wp_if_neg z (wpAny_pure (q _ sb ⟨⟨_, es1, _, t2, here, hex, rfl, R, few, ft, ris, ld⟩, nd⟩))
theorem put_text {L : List Str} (M : SetX P w s.heap a L) (x : Str) (tk : Tok) (room : L.length + 1 < scanBound) {Q : Bool → Shared → Prop}
    (q : ∀ b h', Heap.SameBut a s.heap h' → (x ∈ L → SetX P w h' a L) → (x ∉ L → SetX P w h' a (x :: L)) → Q b { s with heap := h' }) : wpAny (model P w) A (setAddHashed a (.str x tk) ((PySem.strKind P w).hash x)) Q E s := by
  obtain ⟨⟨o, es, ep, t, ho, hex, hd, R, few, ft, ris, ld⟩, nd⟩ := id M
  have el := R.elems
  have sc : (Value.str x tk).scannable = true := rfl
  unfold setAddHashed setAddHashedIn
  refine wpAny_holding (wpAny_bind (wpAny_setState_of ho hd ft ?_))
  dsimp only
  rw [byScan_of sc few el]
  simp only [↓reduceIte]
  unfold setAddByScan
  refine wpAny_bind (wpAny_bind (wpAny_rule (wpAny_bind (wpAny_setScan_of (strKind_is P w x tk) ho hd ft el ?_))))
  cases hf : List.findIdx? (fun e => (PySem.strKind P w).is x e.2) es.toList with
  | some j =>
    dsimp only
    obtain ⟨lt, pj, _⟩ := List.findIdx?_eq_some_iff_getElem.mp hf
    have m : x ∈ L := (R.mem x).mpr ⟨_, List.getElem_mem lt, pj⟩
    exact wpAny_pure (wpAny_pure (q _ s.heap (Heap.SameBut.refl a s.heap) (fun _ => M) fun no => absurd m no))
  | none =>
    dsimp only
    have no : x ∉ L := fun m => by
      obtain ⟨e, he, i⟩ := (R.mem x).mp m
      rw [List.findIdx?_eq_none_iff.mp hf e he] at i
      cases i
    have p1 := layNew_perm t es ((PySem.strKind P w).hash x) (.str x tk)
    have p2 := layNew_fits t es ((PySem.strKind P w).hash x) (.str x tk)
    have p3 := layNew_ris t es ((PySem.strKind P w).hash x) (.str x tk) ris
    have p4 := layNew_led t es ((PySem.strKind P w).hash x) (.str x tk)
    revert p1 p2 p3 p4
    generalize layNew t es ((PySem.strKind P w).hash x) (.str x tk) = Z
    obtain ⟨es1, t1, wasDummy, gave⟩ := Z
    intro p1 p2 p3 p4
    rw [Array.toList_push] at p1
    have R1 : RowsX P w es1.toList (x :: L) := R.cons x tk p1
    have nd1 : (x :: L).Nodup := List.nodup_cons.mpr ⟨no, nd⟩
    have few1 : es1.size < scanBound := by rw [← Array.length_toList, R1.size, List.length_cons]; exact room
    have ld1 : w.params.followText "set-order" = true ∨ t1.led = true := ld.imp id fun e => p4.trans e
    refine wpAny_bind (quiet_rule gave _ ?_)
    dsimp only
    have fin : ∀ h', Heap.SameBut a s.heap h' → SetX P w h' a (x :: L) → Q true { s with heap := h' } := fun h' sb N => q _ h' sb (fun m => absurd m no) fun _ => N
    split
    · refine wpAny_bind ?_
      rw [hashByValue_scannable 8 sc]
      refine wpAny_pure (laid_in (fun b s₁ Q' z => quiet_rule b _ z) ho hex hd R1 nd1 few1 ?_ ?_ ?_ fun h' sb N => ?_)
      · first | (split <;> first | exact p2 | exact SetTable.fits_plain_off p2) | exact p2
      · first | (split <;> exact p3) | exact p3
      · first | (split <;> exact ld1) | exact ld1
      · dsimp only
        exact wpAny_pure (fin h' sb N)
    · refine wpAny_bind (wpAny_pure ?_)
      simp only [↓reduceIte]
      refine laid_in (fun b s₁ Q' z => quiet_rule b _ z) ho hex hd R1 nd1 few1 p2 p3 ld1 fun h' sb N => ?_
      dsimp only
      exact wpAny_pure (fin h' sb N)
end
end DQ

set_option Elab.async false
set_option linter.all false
set_option maxRecDepth 100000
set_option maxHeartbeats 3200000
namespace DQ
open PySem PySem.Spec PyProof.Rows L2
/-! ### set(xs), xs a list or a tuple of texts -/
def setE (w : World) : Obj := { cls := .type "set", dict := none, data := .set #[] 0 (.fresh 0 0 (!w.params.followText "set-order")) }
/-- each text of xs once -/
def OnceX (L xs : List Str) : Prop := L.Nodup ∧ ∀ x, x ∈ L ↔ x ∈ xs
section
variable {P : Program} {w : World} {A : Around} {E : Value → Shared → Prop} {s : Shared}
theorem setX_none {h : Heap} {a : Addr} (ho : h.get? a = some (setE w)) : SetX P w h a [] := by
  refine ⟨⟨_, #[], 0, _, ho, ⟨rfl, rfl, rfl⟩, rfl, ⟨[], .nil, rfl⟩, by decide, by rfl, .nil, ?_⟩, .nil⟩
  cases hc : w.params.followText "set-order"
  · exact .inr rfl
  · exact .inl rfl
theorem once_take {L xs : List Str} {i : Nat} {x : Str} (h : xs[i]? = some x) (o : OnceX L (xs.take i)) : (x ∈ L → OnceX L (xs.take (i + 1))) ∧ (x ∉ L → OnceX (x :: L) (xs.take (i + 1))) := by
  have e : xs.take (i + 1) = xs.take i ++ [x] := by rw [List.take_succ, h]; rfl
  refine ⟨fun m => ⟨o.1, fun y => ?_⟩, fun m => ⟨List.nodup_cons.mpr ⟨m, o.1⟩, fun y => ?_⟩⟩ <;> rw [e, List.mem_append, List.mem_singleton]
  · exact ⟨fun z => .inl ((o.2 y).mp z), fun z => z.elim (fun z => (o.2 y).mpr z) fun z => z ▸ m⟩
  · rw [List.mem_cons, o.2 y]
    exact Or.comm
theorem once_len : ∀ {L xs : List Str}, L.Nodup → (∀ x ∈ L, x ∈ xs) → L.length ≤ xs.length
  | [], _, _, _ => Nat.zero_le _
  | x :: L, xs, nd, h => by
    obtain ⟨n1, n2⟩ := List.nodup_cons.mp nd
    have m := h x List.mem_cons_self
    have z := once_len (xs := xs.erase x) n2 fun y hy => (List.mem_erase_of_ne fun e => n1 (by rw [← e]; exact hy)).mpr (h y (List.mem_cons_of_mem _ hy))
    rw [List.length_erase_of_mem m] at z
    have := List.length_pos_of_mem m
    rw [List.length_cons]
    omega
/-- the loop of set.update over texts -/
theorem feedX {I : Addr} {fp wr : List Addr} {G : Array GenState → Array GenState → Prop} {n : Nat} {Pv : Nat → Value → Prop} {St : Nat → Shared → Prop} {R : Result → Shared → Prop} (W : WalksS P w A.in1 I fp wr G n Pv St) (S : Addr) (nS : S ∉ fp) (xs : List Str) (hn : n = xs.length) (few : xs.length + 1 < scanBound)
    (hval : ∀ i v, Pv i v → ∃ x tk, xs[i]? = some x ∧ v = .str x tk) :
    ∀ (j i : Nat) (s : Shared), n - i = j → i ≤ n → St i s → (∃ L, SetX P w s.heap S L ∧ OnceX L (xs.take i)) →
      (∀ s' L, Moved (S :: wr) G s s' → SetX P w s'.heap S L → OnceX L xs → R (.ok (.ret .none)) s') → codeAny (model P w) A (.builtin "set.update.loop" ⟨[.ref S, .ref I], []⟩) R s := by
  have nw : S ∉ wr := fun h => nS (W.sub _ h)
  have inw : ∀ b ∈ wr, b ∈ S :: wr := fun b hb => List.mem_cons_of_mem _ hb
  intro j
  induction j with
  | zero =>
    intro i s hj hi st ⟨L, M, o⟩ fin
    obtain rfl : i = n := by omega
    refine codeAny_builtin F.entry_set_update_loop ?_
    rw [Around.under_plainId F.plain_set_update_loop _]
    show wpAny _ A.in1 (pyNext (.ref I) >>= _) _ _ s
    refine wpAny_bind (W.done s _ _ st fun s' hm => ?_)
    rw [List.take_of_length_le (by omega)] at o
    exact wpAny_pure (fin s' L (hm.mono inw) (M.stays fun u e => hm.heap S u nw e) o)
  | succ j ih =>
    intro i s hj hi st ⟨L, M, o⟩ fin
    have lt : i < n := by omega
    refine codeAny_builtin F.entry_set_update_loop ?_
    rw [Around.under_plainId F.plain_set_update_loop _]
    show wpAny _ A.in1 (pyNext (.ref I) >>= _) _ _ s
    refine wpAny_bind (W.item i s _ _ lt st fun v s' hP st' hm => ?_)
    obtain ⟨x, tk, hx, rfl⟩ := hval i v hP
    have M' : SetX P w s'.heap S L := M.stays fun u e => hm.heap S u nw e
    show wpAny _ A.in1 (holding [Value.str x tk] (setAdd S (.str x tk)) >>= _) _ _ s'
    refine wpAny_bind (wpAny_holding ?_)
    unfold setAdd
    refine wpAny_holding (wpAny_bind ((PySem.strKind P w).pyHash (strKind_is P w x tk) ?_))
    have lL := once_len o.1 fun y hy => (o.2 y).mp hy
    rw [List.length_take] at lL
    refine put_text (s := { s' with toks := s'.toks + 1 }) M' x tk (by omega) fun b h' sb c1 c2 => ?_
    have nxt := once_take hx o
    have both : ∃ L', SetX P w h' S L' ∧ OnceX L' (xs.take (i + 1)) := by
      by_cases m : x ∈ L
      · exact ⟨L, c1 m, nxt.1 m⟩
      · exact ⟨x :: L, c2 m, nxt.2 m⟩
    refine wpAny_pure ⟨plainId_quiet F.plain_set_update_loop _, ih (i + 1) _ (by omega) lt (W.frame _ s' _ _ st' (Nat.le_succ _) fun b hb o e => ?_) both fun s2 L2 hm2 M3 o3 => ?_⟩
    · exact (sb.2 b (fun z => nS (by rw [← z]; exact hb))).trans e
    · refine fin s2 L2 (Moved.trans W.gtrans ((hm.mono inw).then_heap (Nat.le_succ _) fun b o hb e => ?_) hm2) M3 o3
      exact (sb.2 b (fun z => hb (by rw [z]; exact List.mem_cons_self))).trans e
/-- what set(xs) leaves -/
def FilledX (P : Program) (w : World) (s : Shared) (xs : List Str) (s2 : Shared) : Prop := ∃ h' tk L, s2 = { s with heap := h', toks := tk } ∧ SetX P w h' s.heap.objs.size L ∧ OnceX L xs ∧ ∀ b o, s.heap.get? b = some o → h'.get? b = some o
theorem items_at {items : Array Value} {xs : List Str} (hi : PyProof.Rows.StrsAre items.toList xs) : items.size = xs.length ∧ ∀ (i : Nat) (v : Value), items[i]? = some v → ∃ x tk, xs[i]? = some x ∧ v = .str x tk := by
  have sz : items.size = xs.length := by rw [← StrsAre.len_eq hi, Array.length_toList]
  refine ⟨sz, fun i v hv => ?_⟩
  obtain ⟨t, e⟩ := SS.strs_at hi i v (by rw [Array.getElem?_toList]; exact hv)
  have lt : i < xs.length := by
    rw [← sz]
    exact (Array.getElem?_eq_some_iff.mp hv).1
  exact ⟨xs[i], t, List.getElem?_eq_getElem lt, by rw [e, List.getD_eq_getElem?_getD, List.getElem?_eq_getElem lt]; rfl⟩
/-- the walk ended: what stood before stands -/
theorem filled_of {xs L : List Str} {I : Addr} {s1 s' : Shared} (hm : Moved [s.heap.objs.size, I] (fun a b => b = a) s1 s') (M : SetX P w s'.heap s.heap.objs.size L) (o : OnceX L xs) (g0 : s1.gens = s.gens) (d0 : s1.drawn = s.drawn) (o0 : s1.os = s.os) (hI : s.heap.objs.size ≤ I) (k1 : ∀ b o, s.heap.get? b = some o → s1.heap.get? b = some o) : FilledX P w s xs s' := by
  obtain ⟨h', g2, d', tk, os'⟩ := s'
  refine ⟨h', tk, L, ?_, M, o, fun b u e => ?_⟩
  · have a1 : g2 = s.gens := (show g2 = s1.gens from hm.gens).trans g0
    have a2 : d' = s.drawn := hm.drawn.trans d0
    have a3 : os' = s.os := hm.os.trans o0
    rw [a1, a2, a3]
  · have lt := Heap.lt_size e
    exact hm.heap b u (by simp only [List.mem_cons, List.not_mem_nil, or_false, not_or]; exact ⟨Nat.ne_of_lt lt, Nat.ne_of_lt (Nat.lt_of_lt_of_le lt hI)⟩) (k1 b u e)
end
end DQ

set_option Elab.async false
set_option linter.all false
set_option maxRecDepth 100000
set_option maxHeartbeats 3200000
namespace DQ
open PySem PySem.Spec PyProof.Rows L2
section
variable {P : Program} {w : World} {A : Around} {E : Value → Shared → Prop} {s : Shared}
theorem init_list {l : Addr} {items : Array Value} {xs : List Str} (hh : A.handled = none) (hl : s.heap.IsList l items) (hit : PyProof.Rows.StrsAre items.toList xs) (few : xs.length + 1 < scanBound) :
    wpAny (model P w) A.in1 (Builtin.«set.__init__» { pos := [Value.ref s.heap.objs.size] ++ { pos := [Value.ref l] : Args }.pos }) (fun fin s' => match fin with
      | .done f => wants (fun r s₂ => r = .none ∧ FilledX P w s xs s₂) E (.ok f) s'
      | .again c' => c'.quiet = true ∧ codeAny (model P w) A c' (wants (fun r s₂ => r = .none ∧ FilledX P w s xs s₂) E) s') (fun e s' => wants (fun r s₂ => r = .none ∧ FilledX P w s xs s₂) E (.error e) s') { s with heap := s.heap.push (setE w) } := by
  obtain ⟨isz, vals⟩ := items_at hit
  obtain ⟨ol, hol, hcl, nl, hdl⟩ := hl
  obtain ⟨ocls, odict, odata, oslots⟩ := ol
  simp only at hcl hdl
  subst hcl; subst hdl
  have hol' : (s.heap.push (setE w)).get? l = some { cls := .type "list", dict := odict, data := .seq items nl, slots := oslots } := Heap.get?_push_of_some _ hol
  have x1 := F.sub_list_set
  have x2 := F.sub_list_frozenset
  have x3 : (Value.type "list" == Value.type "dict") = false := by decide
  have il : (s.heap.push (setE w)).IsList l items := ⟨_, hol', rfl, nl, rfl⟩
  unfold Builtin.«set.__init__» noKeywords Builtin.Frozenset.updateFrom
  generalize hPI : pyIter = PI
  wp_walk
  subst hPI
  refine wpAny_pyIter_list il (wpAny_bind (wpAny_runValue ?_))
  have sz1 : (s.heap.push (setE w)).objs.size = s.heap.objs.size + 1 := Heap.size_push ..
  have ls : l < s.heap.objs.size := Heap.lt_size hol
  have hh3 : A.in1.in1.handled = none := by simp [hh]
  refine feedX ((Walks.list hh3 _ l (by rw [sz1]; exact Nat.ne_of_lt (Nat.lt_succ_of_lt ls)) items).toS) s.heap.objs.size (by rw [sz1]; simp only [List.mem_cons, List.not_mem_nil, or_false, not_or]; exact ⟨Nat.ne_of_lt (Nat.lt_succ_self _), Nat.ne_of_gt ls⟩) xs isz few vals (items.size - 0) 0 _ rfl (Nat.zero_le _)
    ⟨⟨_, Heap.get?_push_size _ rfl, rfl, rfl⟩, il.push _⟩ ⟨[], setX_none (Heap.get?_push_of_some _ (Heap.get?_push_size _ rfl)), .nil, fun x => by simp⟩ fun s' L hm M o => ?_
  have fl := filled_of (s := s) hm M o rfl rfl rfl (by rw [sz1]; exact Nat.le_succ _) (fun b o e => Heap.get?_push_of_some _ (Heap.get?_push_of_some _ e))
  show wpAny _ _ _ _ _ _
  refine wpAny_pure ?_
  show wpAny _ _ (ret Value.none) _ _ _
  exact wpAny_pure ⟨rfl, fl⟩
theorem init_tup {l : Addr} {items : Array Value} {xs : List Str} (hh : A.handled = none) (hl : s.heap.IsTuple l items) (hit : PyProof.Rows.StrsAre items.toList xs) (few : xs.length + 1 < scanBound) :
    wpAny (model P w) A.in1 (Builtin.«set.__init__» { pos := [Value.ref s.heap.objs.size] ++ { pos := [Value.ref l] : Args }.pos }) (fun fin s' => match fin with
      | .done f => wants (fun r s₂ => r = .none ∧ FilledX P w s xs s₂) E (.ok f) s'
      | .again c' => c'.quiet = true ∧ codeAny (model P w) A c' (wants (fun r s₂ => r = .none ∧ FilledX P w s xs s₂) E) s') (fun e s' => wants (fun r s₂ => r = .none ∧ FilledX P w s xs s₂) E (.error e) s') { s with heap := s.heap.push (setE w) } := by
  obtain ⟨isz, vals⟩ := items_at hit
  obtain ⟨ol, hol, hcl, nl, hdl⟩ := hl
  obtain ⟨ocls, odict, odata, oslots⟩ := ol
  simp only at hcl hdl
  subst hcl; subst hdl
  have hol' : (s.heap.push (setE w)).get? l = some { cls := .type "tuple", dict := odict, data := .seq items nl, slots := oslots } := Heap.get?_push_of_some _ hol
  have x1 := F.sub_tuple_set
  have x2 := F.sub_tuple_frozenset
  have x3 : (Value.type "tuple" == Value.type "dict") = false := by decide
  have il : (s.heap.push (setE w)).IsTuple l items := ⟨_, hol', rfl, nl, rfl⟩
  unfold Builtin.«set.__init__» noKeywords Builtin.Frozenset.updateFrom
  generalize hPI : pyIter = PI
  wp_walk
  subst hPI
  refine wpAny_pyIter_tuple il (wpAny_bind (wpAny_runValue ?_))
  have sz1 : (s.heap.push (setE w)).objs.size = s.heap.objs.size + 1 := Heap.size_push ..
  have ls : l < s.heap.objs.size := Heap.lt_size hol
  have hh3 : A.in1.in1.handled = none := by simp [hh]
  refine feedX ((Walks.tuple hh3 _ l (by rw [sz1]; exact Nat.ne_of_lt (Nat.lt_succ_of_lt ls)) items).toS) s.heap.objs.size (by rw [sz1]; simp only [List.mem_cons, List.not_mem_nil, or_false, not_or]; exact ⟨Nat.ne_of_lt (Nat.lt_succ_self _), Nat.ne_of_gt ls⟩) xs isz few vals (items.size - 0) 0 _ rfl (Nat.zero_le _)
    ⟨⟨_, Heap.get?_push_size _ rfl, rfl, rfl⟩, il.push _⟩ ⟨[], setX_none (Heap.get?_push_of_some _ (Heap.get?_push_size _ rfl)), .nil, fun x => by simp⟩ fun s' L hm M o => ?_
  have fl := filled_of (s := s) hm M o rfl rfl rfl (by rw [sz1]; exact Nat.le_succ _) (fun b o e => Heap.get?_push_of_some _ (Heap.get?_push_of_some _ e))
  show wpAny _ _ _ _ _ _
  refine wpAny_pure ?_
  show wpAny _ _ (ret Value.none) _ _ _
  exact wpAny_pure ⟨rfl, fl⟩
theorem call_set_text {l : Addr} {items : Array Value} (xs : List Str) {Q : Value → Shared → Prop} (hh : A.handled = none) (hl : s.heap.IsList l items ∨ s.heap.IsTuple l items) (hit : PyProof.Rows.StrsAre items.toList xs) (few : xs.length + 1 < scanBound)
    (q : ∀ s2, FilledX P w s xs s2 → Q (.ref s.heap.objs.size) s2) : wpAny (model P w) A (call (.type "set") [.ref l]) Q E s := by
  obtain ⟨c, tl, hmro⟩ := F.called_set.mro
  have made := F.called_set.made
  have under := F.called_set.sub
  refine wpAny_call (codeAny_of_tree ?_)
  show wpAny _ _ (callAny (.type "set") _) _ _ _
  refine wpAny_pure ⟨Code.quiet_builtin _ (by decide +kernel), codeAny_builtin F.entry_type_call ?_⟩
  rw [Around.under_plain (weight_type_call_type "set" [.ref l] []) rfl]
  have t1 := F.called_set.notType
  have t2 := F.called_set.canCreate
  have t3 := F.typeCall_set_1 (.ref l)
  repeat (any_goals (first | assumption | wp_step))
  refine codeAny_mono (code_set_led1 (.ref l) (E := E) (Q₁ := fun u s₁ => u = .ref s.heap.objs.size ∧ s₁ = { s with heap := s.heap.push (setE w) }) ⟨rfl, rfl⟩) fun r s₁ hr => ?_
  cases r with
  | error e => exact hr
  | ok fl =>
    cases fl with
    | ret obj =>
      obtain ⟨rfl, rfl⟩ := hr
      have isSet : Shared.TypeIs { s with heap := s.heap.push (setE w) } (.ref s.heap.objs.size) "set" := ⟨_, Heap.get?_push_size _ rfl, rfl⟩
      have li := F.called_set.init.lookup
      have bi := F.called_set.init.bind (.ref s.heap.objs.size)
      repeat (any_goals (first | assumption | wp_step))
      refine codeAny_mono (codeAny_call_builtin (R := wants (fun r s₂ => r = .none ∧ FilledX P w s xs s₂) E) F.called_set.init.plain F.entry_set_init (check_set_init_1 isSet ?_)) fun r₂ s₂ hr₂ => ?_
      · rcases hl with hl | hl
        · exact init_list (by simp [hh]) hl hit few
        · exact init_tup (by simp [hh]) hl hit few
      · cases r₂ with
        | error e => exact hr₂
        | ok fl₂ =>
          cases fl₂ with
          | ret r =>
            obtain ⟨rfl, fl⟩ := hr₂
            repeat (any_goals (first | assumption | wp_step))
            exact q _ fl
          | _ => exact hr₂.elim
    | _ => exact hr.elim
end
end DQ

set_option Elab.async false
set_option linter.all false
set_option maxRecDepth 100000
set_option maxHeartbeats 3200000
namespace DQ
open PySem PySem.Spec PyProof.Rows L2
/-! ### sorted(set of texts); the layer's rules -/
abbrev ST := Str × Tok
def stV (f : ST) : Value := .str f.1 f.2
def stD (f : ST) : PyData := .str f.1
/-- texts in order -/
def sortX (L : List Str) : List Str := L.mergeSort (PySem.W.dataLe false PyData.str)
theorem sort_fst (fs : List ST) : (fs.mergeSort (PySem.W.dataLe false stD)).map (·.1) = sortX (fs.map (·.1)) := List.map_mergeSort fun _ _ _ _ => rfl
theorem sortX_len (L : List Str) : (sortX L).length = L.length := List.length_mergeSort _
theorem perm_mapX {α β : Type} {f : α → β} {xs ys : List β} (p : xs.Perm ys) : ∀ L : List α, ys = L.map f → ∃ L1 : List α, xs = L1.map f ∧ L1.Perm L := by
  induction p with
  | nil => intro L e; exact ⟨[], rfl, by rw [List.map_eq_nil_iff.mp e.symm]⟩
  | @cons x l1 l2 p ih =>
    intro L e
    cases L with
    | nil => cases e
    | cons y L =>
      injection e with e1 e2
      obtain ⟨L1, h1, h2⟩ := ih L e2
      exact ⟨y :: L1, by rw [List.map_cons, h1, e1], h2.cons y⟩
  | swap x y l =>
    intro L e
    match L, e with
    | u :: v :: L, e =>
      injection e with e1 e2
      injection e2 with e2 e3
      exact ⟨v :: u :: L, by rw [List.map_cons, List.map_cons, e1, e2, e3], .swap ..⟩
  | trans p1 p2 i1 i2 =>
    intro L e
    obtain ⟨L1, h1, h2⟩ := i2 L e
    obtain ⟨L2, h3, h4⟩ := i1 L1 h1
    exact ⟨L2, h3, h4.trans h2⟩
theorem each_st : ∀ {vs : List Value} {l : List ST}, PySem.W.EachIs (fun (v : Value) (f : ST) => v = stV f) vs l → vs = l.map stV
  | _, _, .nil => rfl
  | _, _, .cons r t => by rw [List.map_cons, r, each_st t]
theorem st_each : ∀ l : List ST, PySem.W.EachIs (fun (v : Value) (f : ST) => v = stV f) (l.map stV) l
  | [] => .nil
  | f :: l => .cons rfl (st_each l)
theorem st_reads (h : Heap) (a : Addr) : ∀ l : List ST, PySem.W.EachIs (fun (v : Value) (f : ST) => ∃ as, Reads h v (stD f) as ∧ a ∉ as) (l.map stV) l
  | [] => .nil
  | f :: l => .cons ⟨[], Reads.str _ _, by simp⟩ (st_reads h a l)
theorem st_alike (l : List ST) : PySem.W.AllAlike (l.map stD) := fun d hd d' hd' => by
  obtain ⟨f, _, rfl⟩ := List.mem_map.mp hd
  obtain ⟨g, _, rfl⟩ := List.mem_map.mp hd'
  simp [stD, PySem.W.alike]
theorem st_sortable (l : List ST) : PySem.W.Sortable (l.map stD) := by
  refine .inr fun d hd => ?_
  obtain ⟨f, _, rfl⟩ := List.mem_map.mp hd
  exact ⟨PyData.noConfusion, fun _ => PyData.noConfusion⟩
theorem st_vals : ∀ l : List ST, Vals ((l.map (·.1)).map V.str) (l.map stV)
  | [] => .nil
  | f :: l => .cons ⟨f.2, rfl⟩ (st_vals l)
section
variable {P : Program} {w : World} {A : Around} {E : Value → Shared → Prop} {s : Shared}
theorem sorted_text {a : Addr} {L : List Str} (M : SetX P w s.heap a L) (hh : A.handled = none) (hu : A.units + 64 < cLine) {Q : Value → Shared → Prop}
    (q : ∀ s' p (out : List Value) c (fs : List ST), (∀ b o, s.heap.get? b = some o → s'.heap.get? b = some o) → s'.gens = s.gens → s'.os = s.os → s.heap.objs.size ≤ p → s'.heap.get? p = some (seqObj "list" out.toArray c) → (fs.map (·.1)).Perm L → out = (fs.mergeSort (PySem.W.dataLe false stD)).map stV → Q (.ref p) s') :
    wpAny (model P w) A (call (.builtin "sorted") [.ref a]) Q E s := by
  obtain ⟨⟨o, es, ep, t, ho, hex, hd, ⟨f0, pm0, e0⟩, few, ft, ris, ld⟩, nd⟩ := M
  refine Calls.call_function_entry kind_sorted plain_sorted entry_sorted (args_sorted1 _) ?_
  unfold Builtin.«sorted»
  refine wpAny_bind (m := checkCount "sorted" 1 1 _) (wpAny_pure (wpAny_bind (collect_set (A := A.in1) hh ⟨o, ho, hex.1, hd⟩ ft few ris ld fun s1 vs k1 hz g1 o1 pm => ?_)))
  have pm2 : vs.Perm (f0.map stV) := by
    have z := pm0.map (fun e : Int × Value => e.2)
    rw [List.map_map] at z
    exact pm.trans z
  obtain ⟨fs, rfl, pL⟩ := perm_mapX pm2 f0 rfl
  have len : fs.length < scanBound := by
    have z := pm0.length_eq
    rw [Array.length_toList, List.length_map] at z
    rw [pL.length_eq]; omega
  have lenS : fs.length ≤ sizeLine := by rw [sizeLine_eq]; unfold scanBound at len; omega
  refine wpAny_bind (wpAny_newList ?_ (by rw [List.length_map]; exact lenS))
  have hoL : (s1.heap.push (seqObj "list" (fs.map stV).toArray 0)).get? s1.heap.objs.size = some (seqObj "list" (fs.map stV).toArray 0) := Heap.get?_push_size _ rfl
  refine wpAny_bind (wpAny_holding (PySem.W.list_sort_data (enc := stD) hoL (st_each fs) (st_reads _ _ fs) (st_alike fs) (st_sortable fs) lenS (fun f _ => ?_) fun out lo eo => ?_))
  · show _ + (PyData.str f.1).depth < cLine
    rw [PyData.depth]
    show A.units + 1 + 1 + 0 < cLine
    omega
  obtain ⟨c, hc⟩ := sortedHeap_at (vs := fs.map stV) (out := out.toArray) hoL
  refine wpAny_pure ⟨_, rfl, q _ s1.heap.objs.size out c fs (fun b u e => ?_) g1 o1 hz hc ?_ (each_st eo)⟩
  · have z := k1 b u e
    have lt := Heap.lt_size z
    show (sortedHeap (s1.heap.push (seqObj "list" (fs.map stV).toArray 0)) s1.heap.objs.size (fs.map stV) out.toArray).get? b = some u
    rw [sortedHeap_old (Nat.ne_of_lt lt) (by rw [size_push']; exact Nat.lt_succ_of_lt lt)]
    exact Heap.get?_push_of_some _ z
  · rw [← e0]
    exact pL.map _
end
def SetXO (P : Program) (w : World) (a : Addr) (L : List Str) : HO := .ext fun h => SetX P w h a L
theorem setXO_new {P : Program} {w : World} {H : Hp} {h : Heap} {a : Addr} {L : List Str} (M : SetX P w h a L) : ObjOk P w H h a (SetXO P w a L) := by
  have ⟨⟨o, _, _, _, ho, _⟩, _⟩ := M
  exact ⟨M, ⟨o, ho⟩, fun h1 h2 p k => SetX.stays (p : SetX P w h1 a L) k⟩
section
variable {X : Cx}
/-- set(xs) of texts -/
def rSetX (P : Program) (w : World) (K : PySem.W.Frag) : List V → Hp → VK → Prop := fun us H Q => ∃ (l : Addr) (xs : List Str), us = [.ref l] ∧ (SqL K H l (xs.map V.str) ∨ SqT K H l (xs.map V.str)) ∧ xs.length + 1 < scanBound ∧ ∀ a L, H a = none → OnceX L xs → Q (.ref a) (upd H a (SetXO P w a L))
theorem cr_setX (hc : X.calm = true) : CallR X (.type "set") (rSetX X.prog X.w X.K) := by
  intro pins s σ H us vs Q I r h
  obtain ⟨l, xs, rfl, hl, few, q⟩ := h
  rw [Vals.ref1 r]
  have hn : H s.heap.objs.size = none := I.hok.fresh (Nat.le_refl _)
  have fin : ∀ s2, FilledX X.prog X.w s xs s2 → EP X pins σ Q (.ref s.heap.objs.size) s2 := fun s2 F => by
    obtain ⟨h', tk, L, rfl, M, o, k⟩ := F
    exact ⟨.ref s.heap.objs.size, upd H s.heap.objs.size (SetXO X.prog X.w s.heap.objs.size L), I.laid (t' := tk) k (Nat.le_refl _) (setXO_new M), rfl, q _ L hn o⟩
  rcases hl with hl | hl
  · obtain ⟨its, rv, pl, hz⟩ := I.list hl
    exact call_set_text (P := X.prog) (w := X.w) xs (I.ok.hd hc) (.inl pl.isList) (by simpa using strsAre_of rv) few fin
  · obtain ⟨its, rv, pl, hz⟩ := I.tuple hl
    exact call_set_text (P := X.prog) (w := X.w) xs (I.ok.hd hc) (.inr pl) (by simpa using strsAre_of rv) few fin
def rSortX (P : Program) (w : World) : List V → Hp → VK → Prop := fun us H Q => ∃ (a : Addr) (L : List Str), us = [.ref a] ∧ H a = some (SetXO P w a L) ∧ ∀ (L1 : List Str) (p : Addr), L1.Perm L → H p = none → Q (.ref p) (upd H p (.lst ((sortX L1).map V.str)))
theorem cr_sortX (hc : X.calm = true) (hu : X.A.units + 64 < cLine) : CallR X (.builtin "sorted") (rSortX X.prog X.w) := by
  intro pins s σ H us vs Q I r h
  obtain ⟨a, L, rfl, ha, q⟩ := h
  have M : SetX X.prog X.w s.heap a L := (I.hok a _ ha).1
  rw [Vals.ref1 r]
  refine sorted_text M (I.ok.hd hc) hu fun s' p out c fs k g o hp hg pm eo => ?_
  have len : ((sortX (fs.map (·.1))).map V.str).length ≤ sizeLine := by
    have ⟨⟨_, es, _, _, _, _, _, R, few, _⟩, _⟩ := M
    have z := R.size
    rw [Array.length_toList] at z
    rw [List.length_map, sortX_len, pm.length_eq, ← z, sizeLine_eq]; unfold scanBound at few; omega
  have hn : H p = none := I.hok.fresh hp
  have hv : Vals ((sortX (fs.map (·.1))).map V.str) out := by rw [eo, ← sort_fst]; exact st_vals _
  have J : Inv X pins σ (upd H p (.lst ((sortX (fs.map (·.1))).map V.str))) { s with heap := s'.heap, gens := s'.gens, drawn := s'.drawn, toks := s'.toks } :=
    I.call (ch := []) (Un.laid k hp hn) (I.hok.laid k hp ⟨len, out, c, hv, hg⟩) (by rw [g]; exact I.bare) (fun _ z => nomatch z)
  have e : s' = { s with heap := s'.heap, gens := s'.gens, drawn := s'.drawn, toks := s'.toks } := by
    obtain ⟨_, _, _, _, _⟩ := s'
    obtain ⟨_, _, _, _, _⟩ := s
    cases o; rfl
  rw [e]
  exact ⟨.ref p, _, J, rfl, q _ p pm hn⟩
end
end DQ

set_option Elab.async false
set_option linter.all false
set_option maxRecDepth 100000
set_option maxHeartbeats 3200000
namespace DQ
open PySem PySem.Spec PyProof.Rows L2
/-! ### {name: True ..}: its keys, texts; sorted of it -/
def KeysX (H : Hp) (D : Addr) (ks : List Str) : Prop := ∃ kvs : List (Key × V), H D = some (.dK kvs) ∧ kvs.map (·.1) = ks.map Sum.inr
theorem keysX_val {kvs : List (Key × V)} {ks : List Str} (h : kvs.map (·.1) = ks.map Sum.inr) (x : Str) : (valV kvs (.inr x)).isSome = decide (x ∈ ks) := by
  rw [← valV_any, Bool.eq_iff_iff, List.any_eq_true, decide_eq_true_eq]
  constructor
  · intro ⟨p, hp, e⟩
    have m : p.1 ∈ ks.map Sum.inr := by rw [← h]; exact List.mem_map.mpr ⟨p, hp, rfl⟩
    rw [of_decide_eq_true e] at m
    obtain ⟨y, hy, ey⟩ := List.mem_map.mp m
    injection ey with ey
    rw [← ey]; exact hy
  · intro hx
    have m : (Sum.inr x : Key) ∈ kvs.map (·.1) := by rw [h]; exact List.mem_map.mpr ⟨x, hx, rfl⟩
    obtain ⟨p, hp, e⟩ := List.mem_map.mp m
    exact ⟨p, hp, decide_eq_true e⟩
theorem keysX_put {kvs : List (Key × V)} {ks : List Str} (h : kvs.map (·.1) = ks.map Sum.inr) (x : Str) (v : V) : (putK kvs (.inr x) v).map (·.1) = (if x ∈ ks then ks else ks ++ [x]).map Sum.inr := by
  have z := keysX_val h x
  unfold putK
  rw [valV_any, z]
  by_cases c : x ∈ ks
  · rw [if_pos (decide_eq_true c), if_pos c, ← h, List.map_map]
    refine List.map_congr_left fun p _ => ?_
    show (if p.1 = Sum.inr x then (p.1, v) else p).1 = p.1
    split <;> rfl
  · rw [if_neg (by simp [c]), if_neg c, List.map_append, List.map_append, h]; rfl
/-- the texts, each where it comes first -/
def firstsX : List Str → List Str := List.foldl (fun ks x => if x ∈ ks then ks else ks ++ [x]) []
theorem firstsX_snoc (xs : List Str) (x : Str) : firstsX (xs ++ [x]) = if x ∈ firstsX xs then firstsX xs else firstsX xs ++ [x] := by
  unfold firstsX; rw [List.foldl_append]; rfl
theorem firstsX_once : ∀ n (xs : List Str), xs.length = n → OnceX (firstsX xs) xs ∧ (firstsX xs).length ≤ xs.length
  | 0, xs, h => by
    cases List.length_eq_zero_iff.mp h
    exact ⟨⟨.nil, fun _ => Iff.rfl⟩, Nat.le_refl _⟩
  | n + 1, xs, h => by
    have ne : xs ≠ [] := fun e => by rw [e] at h; cases h
    have e := List.dropLast_concat_getLast ne
    revert e
    generalize xs.dropLast = ms
    generalize xs.getLast ne = x
    intro e
    subst e
    obtain ⟨⟨a, b⟩, c⟩ := firstsX_once n ms (by rw [List.length_append, List.length_singleton] at h; omega)
    rw [firstsX_snoc]
    by_cases m : x ∈ firstsX ms
    · rw [if_pos m]
      refine ⟨⟨a, fun y => ?_⟩, by rw [List.length_append]; omega⟩
      rw [b y, List.mem_append, List.mem_singleton]
      exact ⟨.inl, fun z => z.elim id fun z => by rw [z]; exact (b x).mp m⟩
    · rw [if_neg m]
      refine ⟨⟨List.nodup_append.mpr ⟨a, List.nodup_cons.mpr ⟨List.not_mem_nil, .nil⟩, fun y hy z hz => by rw [List.mem_singleton.mp hz]; exact fun q => m (by rw [← q]; exact hy)⟩, fun y => ?_⟩, by rw [List.length_append, List.length_append]; simp only [List.length_singleton]; omega⟩
      rw [List.mem_append, List.mem_append, b y]
/-! the order of texts -/
def leX (a b : Str) : Bool := decide (a.cps.toList ≤ b.cps.toList)
theorem sortX_eq (L : List Str) : sortX L = L.mergeSort leX := by
  unfold sortX
  rw [show (PySem.W.dataLe false PyData.str) = leX from PySem.W.dataLe_str fun b => b]
theorem leX_anti {a b : Str} (h1 : leX a b = true) (h2 : leX b a = true) : a = b := by
  have e := List.le_antisymm (of_decide_eq_true h1) (of_decide_eq_true h2)
  obtain ⟨⟨a⟩⟩ := a
  obtain ⟨⟨b⟩⟩ := b
  rw [show a = b from e]
theorem leX_trans (a b c : Str) (h1 : leX a b = true) (h2 : leX b c = true) : leX a c = true := decide_eq_true (List.le_trans (of_decide_eq_true h1) (of_decide_eq_true h2))
theorem leX_total (a b : Str) : (leX a b || leX b a) = true := by
  rw [Bool.or_eq_true]
  exact (List.le_total a.cps.toList b.cps.toList).imp decide_eq_true decide_eq_true
/-- what is in order and has the same texts is sorted's list -/
theorem sortX_of {L M : List Str} (p : M.Perm L) (h : M.Pairwise fun a b => leX a b = true) : M = sortX L := by
  rw [sortX_eq]
  exact List.Perm.eq_of_pairwise (fun a b _ _ h1 h2 => leX_anti h1 h2) h (List.pairwise_mergeSort leX_trans leX_total L) (p.trans (List.mergeSort_perm L leX).symm)
theorem sortX_sorts (L : List Str) : (sortX L).Perm L ∧ (sortX L).Pairwise fun a b => leX a b = true := by
  rw [sortX_eq]
  exact ⟨List.mergeSort_perm L leX, List.pairwise_mergeSort leX_trans leX_total L⟩
theorem sortX_perm {L M : List Str} (p : L.Perm M) : sortX L = sortX M := sortX_of ((sortX_sorts L).1.trans p) (sortX_sorts L).2
theorem once_perm {L M xs : List Str} (a : OnceX L xs) (b : OnceX M xs) : L.Perm M := (List.perm_ext_iff_of_nodup a.1 b.1).mpr fun x => (a.2 x).trans (b.2 x).symm
section
variable {X : Cx}
/-- sorted(d), all keys texts -/
def rSortDX : List V → Hp → VK → Prop := fun us H Q => ∃ (a : Addr) (ks : List Str), us = [.ref a] ∧ KeysX H a ks ∧ ks.length ≤ 10000 ∧ ∀ p, H p = none → Q (.ref p) (upd H p (.lst ((sortX ks).map V.str)))
theorem strs_out : ∀ {out : List Value} {l : List Str}, PySem.W.EachIs (fun (v : Value) (x : Str) => ∃ t, v = .str x t) out l → Vals (l.map V.str) out
  | _, _, .nil => .nil
  | _, _, .cons r t => .cons r (strs_out t)
theorem strs_in : ∀ {vs : List Value} {l : List Str}, vs.length = l.length → (∀ (j : Nat) v, vs[j]? = some v → ∃ x t, l[j]? = some x ∧ v = Value.str x t) → PySem.W.EachIs (fun (v : Value) (x : Str) => ∃ t, v = .str x t) vs l
  | [], [], _, _ => .nil
  | [], _ :: _, h, _ => by cases h
  | _ :: _, [], h, _ => by cases h
  | v :: vs, i :: l, h, g => by
    obtain ⟨x, t, e1, e2⟩ := g 0 v rfl
    cases e1
    exact .cons ⟨t, e2⟩ (strs_in (Nat.succ.inj h) fun j u hu => g (j + 1) u hu)
theorem cr_sortDX (hc : X.calm = true) (hu : X.A.units + 64 < cLine) : CallR X (.builtin "sorted") rSortDX := by
  intro pins s σ H xs us Q I r h
  obtain ⟨a, ks, rfl, ⟨kvs, ha, hk⟩, few, q⟩ := h
  rw [Vals.ref1 r]
  obtain ⟨z, lo, vs, rel, dd⟩ := dk_of I.hok ha
  obtain ⟨ep, hat⟩ := dd.dictAt
  have keys : vs.map (·.1) = ks.map Sum.inr := rel.keys.symm.trans hk
  have hl : vs.length = ks.length := by
    have e := congrArg List.length keys
    rwa [List.length_map, List.length_map] at e
  refine Calls.call_function_entry PyProof.Rows.kind_sorted PyProof.Rows.plain_sorted PyProof.Rows.entry_sorted (PyProof.Rows.args_sorted1 _) ?_
  unfold Builtin.«sorted»
  refine wpAny_bind (m := checkCount "sorted" 1 1 _) (wpAny_pure (wpAny_bind (PySem.W.kdu_collect (A := X.A.in1) (PySem.W.kdl_dict (knd := mixKind X.prog X.w) (kvs := vs) (ep := ep) lo) (I.ok.hd hc) hat (by rw [hl, sizeLine_eq]; omega) fun h' tk acc kp hacc => ?_)))
  have la : acc.toList.length = ks.length := by rw [Array.length_toList, hacc.1, hl]
  have each := strs_in la fun j v e => by
    obtain ⟨k, x, e1, e2⟩ := hacc.2 j v (by rw [← Array.getElem?_toList]; exact e)
    have e3 : (vs.map (·.1))[j]? = some k := by rw [List.getElem?_map, e1]; rfl
    rw [keys, List.getElem?_map] at e3
    cases e4 : ks[j]? with
    | none => rw [e4] at e3; cases e3
    | some y =>
      rw [e4] at e3
      obtain rfl : Sum.inr y = k := Option.some.inj e3
      rcases keyIs_shape (show keyIs (Sum.inr y) v = true from e2) with ⟨i, t, ek, ev⟩ | ⟨w, t, ek, ev⟩
      · cases ek
      · cases ek; exact ⟨y, t, rfl, ev⟩
  have I1 : Inv X pins σ H { s with heap := h', toks := tk } := I.kept kp
  refine wpAny_bind (wpAny_newList ?_ (by rw [la, sizeLine_eq]; omega))
  have hoL : (h'.push (seqObj "list" acc.toList.toArray 0)).get? h'.objs.size = some (seqObj "list" acc.toList.toArray 0) := Heap.get?_push_size _ rfl
  show wpAny _ _ _ _ _ { s with heap := h'.push (seqObj "list" acc.toList.toArray 0), toks := tk }
  refine wpAny_bind (wpAny_holding (PySem.W.list_sort_data (s := { s with heap := h'.push (seqObj "list" acc.toList.toArray 0), toks := tk }) (enc := PyData.str) hoL each (each.mono fun v i ⟨t, e⟩ => ⟨[], by rw [e]; exact Reads.str i t, by simp⟩) (.of fun _ _ => by simp [PySem.W.alike]) (.others fun b => ⟨by simp, by simp⟩) (by rw [sizeLine_eq]; omega) (fun b _ => ?_) fun out lo' eo => ?_))
  · show X.A.units + 1 + 1 + (PyData.str b).depth < cLine
    simp only [PyData.depth]
    omega
  obtain ⟨e', he'⟩ := PyProof.Rows.sortedHeap_at (vs := acc.toList) (out := out.toArray) hoL
  have lenS : ((sortX ks).map V.str).length ≤ sizeLine := by
    rw [List.length_map, sortX_len, sizeLine_eq]; omega
  refine wpAny_pure ⟨_, rfl, .ref h'.objs.size, upd H h'.objs.size (.lst ((sortX ks).map V.str)), I1.laid (t' := tk) (fun b u e => ?_) (Nat.le_refl _)
    (show ObjOk X.prog X.w _ _ _ (.lst ((sortX ks).map V.str)) from ⟨lenS, out, e', strs_out eo, he'⟩), rfl, q _ (I1.hok.fresh (Nat.le_refl _))⟩
  have hb : b < h'.objs.size := Heap.lt_size e
  rw [PyProof.Rows.sortedHeap_old (Nat.ne_of_lt hb) (by rw [size_push']; exact Nat.lt_succ_of_lt hb)]
  exact Heap.get?_push_of_some _ e
end
end DQ

set_option Elab.async false
set_option linter.all false
set_option maxRecDepth 100000
set_option maxHeartbeats 4000000
namespace DQ
open PySem PySem.Spec PyProof.Rows L2
/-! ### questions as data; _law_pick -/
theorem nil_read {σ : L2.St} {H : Hp} {Q : List V → Hp → Prop} (h : Q [] H) : tNil σ H Q := h
theorem c_read {v : V} {σ : L2.St} {H : Hp} {Q : VK} (h : Q v H) : tC v σ H Q := h
theorem iteT' {b : Bool} {p q : Prop} (e : b = true) (h : p) : if b = true then p else q := by rw [if_pos e]; exact h
theorem iteF' {b : Bool} {p q : Prop} (e : b = false) (h : q) : if b = true then p else q := by rw [if_neg (by rw [e]; exact Bool.noConfusion)]; exact h
inductive Qn where
  | tr (b : Bool)
  | mk (m x : Str)
  | lk (c x y : Str)
  | sm (x y : Str)
  | nt (a : Qn)
  | cn (b : Bool) (a c : Qn)
  | qu (b : Bool) (x : Str) (a : Qn)
def trW (b : Bool) : Str := if b then "true" else "false"
def cnW (b : Bool) : Str := if b then "and" else "or"
def quW (b : Bool) : Str := if b then "some" else "all"
def Qn.d : Qn → PyData
  | .tr b => .tuple [.str (trW b)]
  | .mk m x => .tuple [.str "mark", .str m, .str x]
  | .lk c x y => .tuple [.str "link", .str c, .str x, .str y]
  | .sm x y => .tuple [.str "same", .str x, .str y]
  | .nt a => .tuple [.str "not", a.d]
  | .cn b a c => .tuple [.str (cnW b), a.d, c.d]
  | .qu b x a => .tuple [.str (quW b), .str x, a.d]
/-- what the law draws: deep quantifiers at most, so much in the purse -/
def uvwt (k : Nat) : Str := ["u", "v", "w", "t"].getD (k - 1) "t"
inductive Dq (ms cs : List Str) : List Str → Nat → Nat → Qn → Prop
  | tr {ns : List Str} {k p : Nat} (b : Bool) : Dq ms cs ns k p (.tr b)
  | mk {ns : List Str} {k p : Nat} {m x : Str} (hm : m ∈ ms) (hx : x ∈ ns) : Dq ms cs ns k p (.mk m x)
  | lk {ns : List Str} {k p : Nat} {c x y : Str} (hc : c ∈ cs) (hx : x ∈ ns) (hy : y ∈ ns) : Dq ms cs ns k p (.lk c x y)
  | sm {ns : List Str} {k p : Nat} {x y : Str} (hx : x ∈ ns) (hy : y ∈ ns) : Dq ms cs ns k p (.sm x y)
  | nt {ns : List Str} {k p : Nat} {a : Qn} (h : Dq ms cs ns k p a) : Dq ms cs ns k (p + 1) (.nt a)
  | cn {ns : List Str} {k p : Nat} {b : Bool} {a c : Qn} (h2 : 2 ≤ p) (ha : Dq ms cs ns k (p / 2) a) (hc : Dq ms cs ns k (p - p / 2) c) : Dq ms cs ns k p (.cn b a c)
  | qu {ns : List Str} {k p : Nat} {b : Bool} {a : Qn} (h : Dq ms cs (ns ++ [uvwt (k + 1)]) k p a) : Dq ms cs ns (k + 1) p (.qu b (uvwt (k + 1)) a)
abbrev sPickX : Stmt := topS 35
theorem scPickX : FnScope ["generator", "things"] ["generator", "things"] (defScope sPickX) := ⟨rfl, rfl, rfl, by decide +kernel, rfl, by decide +kernel, by decide +kernel⟩
section
variable {P : Program} {w : World} {K : PySem.W.Frag} {mg : Str → Option Value} {base : Heap}
theorem But.keep {g : Addr} {H H' : Hp} (b : But g H H') : Keep g H H' := Keep.of_but b
def spPickX (K : PySem.W.Frag) : Sp := fun vs H Q _ => ∃ (g t : Addr) (xs : List Str) (n : Int), vs = [.ref g, .ref t] ∧ SqL K H t (xs.map V.str) ∧ t ≠ g ∧ xs ≠ [] ∧ xs.length ≤ 2000 ∧ Gen H g n ∧ n + 3 ≤ 1073741824 ∧ ∀ x H', x ∈ xs → Gen H' g (n + 3) → But g H H' → Q (.str x) H'
theorem ok_pickX {f fr : Addr} {fd fdr : FuncData} (F : Fun K "_law_pick" "_law_pick" sPickX f fd) (GR : FnOk P w K mg base CX0 2 fr fdr ["generator", "bound"] spRandom) (bR : Binds K fdr ["generator", "bound"] []) (kR : PySem.W.keepIn K (.ref fr) = true) (mR : mg "_law_random" = some (.ref fr))
    (mLen : mg "len" = none) : FnOk P w K mg base CX0 3 f fd ["generator", "things"] (spPickX K) := by
  refine F.ok scPickX (fun vs H Q E h => ?_) (fun cdv A outer s H vs Q E hr h => ?_)
  · obtain ⟨_, _, _, _, rfl, _⟩ := h
    rfl
  obtain ⟨g, t, xs, n, rfl, sq, ne, nn, few, G, hn, q⟩ := h
  refine ⟨_, pss_one (ps_ret (pe_ix (r := rIxL K) ix_list (pv 1) (pe_call GR (hr.mono (by decide)) rfl mR kR bR .nil pass0 (pa_cons (pv 0) (pa_cons (pe_callB call_len_seq (by rfl) mLen PySem.boot_len (pa_cons (pv 1) pa_nil)) pa_nil))) (fun _ _ => rfl))), ?_⟩
  have pos : 1 ≤ xs.length := Nat.pos_of_ne_zero fun e => nn (List.length_eq_zero_iff.mp e)
  refine ⟨_, rfl, _, rfl, _, rfl, t, _, rfl, .inl sq, nil_read ?_⟩
  rw [List.length_map]
  refine ⟨g, (xs.length : Nat), n, rfl, G, by omega, by omega, hn, fun r H' r0 r1 G' bt => ?_⟩
  obtain ⟨k, rfl⟩ : ∃ k : Nat, r = (k : Int) := ⟨r.toNat, by omega⟩
  have hk : k < xs.length := by omega
  have hi : xs[k]? = some xs[k] := List.getElem?_eq_getElem hk
  exact ⟨t, _, _, _, rfl, rfl, (Keep.of_but bt).seq ne sq, atI_nat (j := k) (show (xs.map V.str)[k]? = some (.str xs[k]) by rw [List.getElem?_map, hi]; rfl), q _ H' (List.getElem_mem hk) G' bt⟩
end
end DQ

set_option Elab.async false
set_option linter.all false
set_option maxRecDepth 100000
set_option maxHeartbeats 4000000
namespace DQ
open PySem PySem.Spec PyProof.Rows L2
/-! ### _law_drawn_atom -/
abbrev sAtom : Stmt := topS 36
abbrev NAt : List Str := ["generator", "marks", "columns", "names", "ways", "way", "x", "y"]
theorem scAtom : FnScope NAt ["generator", "marks", "columns", "names"] (defScope sAtom) := ⟨rfl, rfl, rfl, by decide +kernel, rfl, by decide +kernel, by decide +kernel⟩
inductive Atom (ms cs ns : List Str) : Qn → Prop
  | tr (b : Bool) : Atom ms cs ns (.tr b)
  | mk {m x : Str} (hm : m ∈ ms) (hx : x ∈ ns) : Atom ms cs ns (.mk m x)
  | lk {c x y : Str} (hc : c ∈ cs) (hx : x ∈ ns) (hy : y ∈ ns) : Atom ms cs ns (.lk c x y)
  | sm {x y : Str} (hx : x ∈ ns) (hy : y ∈ ns) : Atom ms cs ns (.sm x y)
theorem Atom.dq {ms cs ns : List Str} {q : Qn} (a : Atom ms cs ns q) (k p : Nat) : Dq ms cs ns k p q := by
  cases a with
  | tr b => exact .tr b
  | mk h1 h2 => exact .mk h1 h2
  | lk h1 h2 h3 => exact .lk h1 h2 h3
  | sm h1 h2 => exact .sm h1 h2
/-- what the ways are -/
def waysOf (ms cs : List Str) (r : Nat) : List Str := (List.replicate (if ms = [] then 0 else 2) ("mark" : Str) ++ List.replicate (if cs = [] then 0 else 4) ("link" : Str) ++ [("same" : Str), "same"]) ++ [("true" : Str), "false"].take r
section
variable {P : Program} {w : World} {K : PySem.W.Frag} {mg : Str → Option Value} {base : Heap}
def spAtom (K : PySem.W.Frag) : Sp := fun vs H Q _ => ∃ (g m c t : Addr) (ms cs ns : List Str) (n : Int), vs = [.ref g, .ref m, .ref c, .ref t] ∧ SqL K H m (ms.map V.str) ∧ SqL K H c (cs.map V.str) ∧ SqL K H t (ns.map V.str) ∧ m ≠ g ∧ c ≠ g ∧ t ≠ g ∧ ms.length ≤ 10 ∧ cs.length ≤ 10 ∧ ns.length ≤ 10 ∧ (∀ x, x ∈ ms ∨ x ∈ cs ∨ x ∈ ns → PyData.canLay0 (.str x) = true) ∧ Gen H g n ∧ n + 21 ≤ 1073741824 ∧
  ∀ v q H', Atom ms cs ns q → Keep g H H' → Gen H' g (n + 21) → Dp K H' v q.d → Q v H'
theorem dp_strs {K : PySem.W.Frag} {H : Hp} : ∀ ms : List Str, DpAll K H (ms.map V.str) (ms.map PyData.str)
  | [] => .nil
  | _ :: r => .cons (.str _) (dp_strs r)
abbrev rInt1 : List V → Hp → VK → Prop := fun xs H Q => (∃ i, xs = [V.int i] ∧ Q (V.int i) H) ∨ ∃ k, xs = [V.bl k] ∧ Q (V.int (if k = true then 1 else 0)) H
theorem sh_strs {xs : List Str} (h : ∀ x ∈ xs, PyData.canLay0 (.str x) = true) : SeqAt.shaped (.list (xs.map PyData.str)) = true := by
  have z : ∀ ys : List Str, (∀ x ∈ ys, PyData.canLay0 (.str x) = true) → PyData.canLayAll0 (ys.map PyData.str) = true ∧ PyData.depthAll (ys.map PyData.str) = 0 := fun ys => by
    induction ys with
    | nil => exact fun _ => ⟨rfl, rfl⟩
    | cons y ys ih =>
      intro h
      obtain ⟨a, b⟩ := ih fun x hx => h x (List.mem_cons_of_mem _ hx)
      exact ⟨by show (PyData.canLay0 (.str y) && PyData.canLayAll0 (ys.map PyData.str)) = true; rw [a, h y List.mem_cons_self]; rfl, by show max 0 (PyData.depthAll (ys.map PyData.str)) = 0; rw [b]; rfl⟩
  refine shaped_of (z xs h).1 ?_
  show PyData.depthAll (xs.map PyData.str) + 1 ≤ 64
  rw [(z xs h).2]; decide
/-- xs != [] of a list of texts -/
theorem ne_nil_strs (xs : List Str) : (!PyData.eqv (.list (xs.map PyData.str)) (.list [])) = !decide (xs = []) := by
  cases xs with
  | nil => rfl
  | cons x xs => rfl
theorem ne_read {σ : L2.St} {H : Hp} {R : VK} {i : Nat} {a : Addr} {xs : List Str} (hs : σ[i]? = some (some (.ref a))) (L : SqL K H a (xs.map V.str)) (lay : ∀ x ∈ xs, PyData.canLay0 (.str x) = true) (q : ∀ H', Same H H' → R (.bl (!decide (xs = []))) H') : tOp (rNeD K) (tVar i) (tLst tNil) σ H R := by
  refine ⟨_, hs, Nat.zero_le _, fun p np => ?_⟩
  have s := same_new np (o := .lst [])
  refine ⟨_, .list [], .lst (L2.Same.seq s L) (dp_strs xs), .lst (SqL.of upd_same) .nil, sh_strs lay, by decide +kernel, ?_⟩
  rw [ne_nil_strs]
  exact q _ s
theorem rep_ne {σ : L2.St} {H : Hp} {R : VK} {i : Nat} {a : Addr} {xs : List Str} {x : Str} {c : Nat} (hc : c ≤ 10) (hs : σ[i]? = some (some (.ref a))) (L : SqL K H a (xs.map V.str)) (lay : ∀ x ∈ xs, PyData.canLay0 (.str x) = true) (q : ∀ p H', Same H H' → H p = none → H' p = some (.lst ((List.replicate (if xs = [] then 0 else c) x).map V.str)) → R (.ref p) H') :
    tOp rRep (tLst (tCons (tC (V.str x)) tNil)) (tOp (rI CMul fun i j => V.int (i * j)) (tC (V.int (c : Int))) (tCB rInt1 (tCons (tOp (rNeD K) (tVar i) (tLst tNil)) tNil))) σ H R := by
  refine ⟨by show 1 ≤ sizeLine; decide, fun p1 np1 => ?_⟩
  have s1 := same_new np1 (o := .lst [V.str x])
  have e1 : L2.upd H p1 (.lst [V.str x]) p1 = some (.lst [V.str x]) := upd_same
  generalize L2.upd H p1 (.lst [V.str x]) = H1 at s1 e1 ⊢
  refine ne_read hs (L2.Same.seq s1 L) lay fun H2 s2 => .inr ⟨_, rfl, ?_⟩
  have val : ((c : Int) * (if (!decide (xs = [])) = true then 1 else 0)) = ((if xs = [] then 0 else c : Nat) : Int) := by
    by_cases z : xs = [] <;> simp [z]
  refine ⟨_, _, rfl, rfl, .inl ⟨by omega, by omega⟩, ?_⟩
  show rRep (V.ref p1) (V.int ((c : Int) * (if (!decide (xs = [])) = true then 1 else 0))) H2 R
  rw [val]
  have le : (if xs = [] then 0 else c) ≤ 10 := by split <;> omega
  refine ⟨p1, _, [V.str x], rfl, rfl, s2 _ _ e1, by omega, by omega, by
    show 1 * _ ≤ sizeLine
    rw [sizeLine_eq]; omega, fun p3 np3 => ?_⟩
  have e3 : (List.replicate (((if xs = [] then 0 else c : Nat) : Int)).toNat [V.str x]).flatten = (List.replicate (if xs = [] then 0 else c) x).map V.str := by
    rw [Int.toNat_natCast, List.map_replicate]
    generalize (if xs = [] then 0 else c) = k
    induction k with
    | zero => rfl
    | succ k ih => rw [List.replicate_succ, List.flatten_cons, ih, List.replicate_succ]; rfl
  rw [e3]
  refine q _ _ ((s1.trans s2).trans (same_new np3)) ?_ upd_same
  cases z : H p3 with
  | none => rfl
  | some o => rw [(s1.trans s2) _ _ z] at np3; cases np3
theorem cut_takeX {xs : List V} {r : Int} (h0 : 0 ≤ r) : cutV xs none (some r) = xs.take r.toNat := by
  unfold cutV
  obtain ⟨k, rfl⟩ : ∃ k : Nat, r = (k : Int) := ⟨r.toNat, by omega⟩
  rw [show HT.sIx xs.length 0 none = 0 from rfl, show HT.sIx xs.length xs.length (some (k : Int)) = min k xs.length from HT.sIx_nat _ _ k, List.drop_zero, Nat.sub_zero, Int.toNat_natCast]
  rcases Nat.le_total k xs.length with h | h
  · rw [Nat.min_eq_left h]
  · rw [Nat.min_eq_right h, List.take_length, List.take_of_length_le h]
def WayOk (ms cs : List Str) (y : Str) : Prop := (y = "mark" ∧ ms ≠ []) ∨ (y = "link" ∧ cs ≠ []) ∨ y = "same" ∨ y = "true" ∨ y = "false"
theorem way_rep {ms : List Str} {x : Str} {c : Nat} {y : Str} (h : y ∈ List.replicate (if ms = [] then 0 else c) x) : y = x ∧ ms ≠ [] := by
  by_cases z : ms = []
  · rw [if_pos z] at h; cases h
  · exact ⟨List.eq_of_mem_replicate h, z⟩
abbrev tWays (K : PySem.W.Frag) : TE := tOp rCat (tOp rCat (tOp rCat (tOp rRep (tLst (tCons (tC (V.str "mark")) tNil)) (tOp (rI CMul fun i j => V.int (i * j)) (tC (V.int 2)) (tCB rInt1 (tCons (tOp (rNeD K) (tVar 1) (tLst tNil)) tNil))))
    (tOp rRep (tLst (tCons (tC (V.str "link")) tNil)) (tOp (rI CMul fun i j => V.int (i * j)) (tC (V.int 4)) (tCB rInt1 (tCons (tOp (rNeD K) (tVar 2) (tLst tNil)) tNil)))))
    (tOp rRep (tLst (tCons (tC (V.str "same")) tNil)) (tC (V.int 2))))
  (tSl (rSlL K) (tLst (tCons (tC (V.str "true")) (tCons (tC (V.str "false")) tNil))) tNoPart (tPart (tCall spRandom [] E0 (tCons (tVar 0) (tCons (tC (V.int 3)) tNil)))))
theorem rand_read {σ : L2.St} {H : Hp} {R : VK} {g : Addr} {n m : Int} (h0 : σ[0]? = some (some (.ref g))) (G : Gen H g n) (h1 : 1 ≤ m) (h2 : m < 1000) (hn : n + 3 ≤ 1073741824) (q : ∀ r H', 0 ≤ r → r < m → Gen H' g (n + 3) → But g H H' → R (.int r) H') : tCall spRandom [] E0 (tCons (tVar 0) (tCons (tC (.int m)) tNil)) σ H R :=
  ⟨.ref g, h0, (show spRandom [.ref g, .int m] H R E0 from ⟨g, m, n, rfl, G, h1, by omega, hn, q⟩)⟩
theorem pick_read {σ : L2.St} {H : Hp} {R : VK} {g t : Addr} {i : Nat} {xs : List Str} {n : Int} (h0 : σ[0]? = some (some (.ref g))) (hi : σ[i]? = some (some (.ref t))) (L : SqL K H t (xs.map V.str)) (nt : t ≠ g) (ne : xs ≠ []) (few : xs.length ≤ 2000) (G : Gen H g n) (hn : n + 3 ≤ 1073741824) (q : ∀ x H', x ∈ xs → Gen H' g (n + 3) → But g H H' → R (.str x) H') : tCall (spPickX K) [] E0 (tCons (tVar 0) (tCons (tVar i) tNil)) σ H R :=
  ⟨.ref g, h0, .ref t, hi, (show spPickX K [.ref g, .ref t] H R E0 from ⟨g, t, xs, n, rfl, L, nt, ne, few, G, hn, q⟩)⟩
theorem ways_read {σ : L2.St} {H : Hp} {R : VK} {g m c : Addr} {ms cs : List Str} {n : Int} (h0 : σ[0]? = some (some (.ref g))) (h1 : σ[1]? = some (some (.ref m))) (h2 : σ[2]? = some (some (.ref c))) (Lm : SqL K H m (ms.map V.str)) (Lc : SqL K H c (cs.map V.str)) (nm : m ≠ g) (nc : c ≠ g) (lm : ∀ x ∈ ms, PyData.canLay0 (.str x) = true) (lc : ∀ x ∈ cs, PyData.canLay0 (.str x) = true) (G : Gen H g n) (hn : n + 3 ≤ 1073741824)
    (q : ∀ p W H', Keep g H H' → Gen H' g (n + 3) → p ≠ g → H' p = some (.lst (W.map V.str)) → (∀ y ∈ W, WayOk ms cs y) → W ≠ [] → W.length ≤ 10 → R (.ref p) H') : tWays K σ H R := by
  refine rep_ne (c := 2) (by decide) h1 Lm lm fun p1 H1 s1 n1 e1 => ?_
  refine rep_ne (c := 4) (by decide) h2 (L2.Same.seq s1 Lc) lc fun p2 H2 s2 n2 e2 => ?_
  have e1 := s2 _ _ e1
  generalize hA : List.replicate (if ms = [] then 0 else 2) ("mark" : Str) = WA at e1
  generalize hB : List.replicate (if cs = [] then 0 else 4) ("link" : Str) = WB at e2
  have lA : WA.length ≤ 2 := by rw [← hA, List.length_replicate]; split <;> omega
  have lB : WB.length ≤ 4 := by rw [← hB, List.length_replicate]; split <;> omega
  refine ⟨p1, p2, _, _, rfl, rfl, e1, e2, by rw [List.length_map, List.length_map, sizeLine_eq]; omega, fun p3 n3 => ?_⟩
  have s3 := same_new n3 (o := .lst (WA.map V.str ++ WB.map V.str))
  have e3 : L2.upd H2 p3 (.lst (WA.map V.str ++ WB.map V.str)) p3 = some (.lst (WA.map V.str ++ WB.map V.str)) := upd_same
  generalize L2.upd H2 p3 (.lst (WA.map V.str ++ WB.map V.str)) = H3 at s3 e3 ⊢
  refine ⟨by show 1 ≤ sizeLine; decide, fun p4 n4 => ⟨p4, 2, [V.str "same"], rfl, rfl, upd_same, by decide, by decide, by show 1 * 2 ≤ sizeLine; decide, fun p5 n5 => ?_⟩⟩
  have s5 := (same_new n4 (o := .lst [V.str "same"])).trans (same_new n5 (o := .lst ((List.replicate (2 : Int).toNat [V.str "same"]).flatten)))
  have e5 : L2.upd (L2.upd H3 p4 (.lst [V.str "same"])) p5 (.lst ((List.replicate (2 : Int).toNat [V.str "same"]).flatten)) p5 = some (.lst [V.str "same", V.str "same"]) := upd_same
  generalize L2.upd (L2.upd H3 p4 (.lst [V.str "same"])) p5 (.lst ((List.replicate (2 : Int).toNat [V.str "same"]).flatten)) = H5 at s5 e5 ⊢
  refine ⟨p3, p5, _, _, rfl, rfl, s5 _ _ e3, e5, by rw [List.length_append, List.length_map, List.length_map, sizeLine_eq]; show _ + 2 ≤ _; omega, fun p6 n6 => ?_⟩
  have s6 := same_new n6 (o := .lst ((WA.map V.str ++ WB.map V.str) ++ [V.str "same", V.str "same"]))
  have e6 : L2.upd H5 p6 (.lst ((WA.map V.str ++ WB.map V.str) ++ [V.str "same", V.str "same"])) p6 = some (.lst ((WA.map V.str ++ WB.map V.str) ++ [V.str "same", V.str "same"])) := upd_same
  generalize L2.upd H5 p6 (.lst ((WA.map V.str ++ WB.map V.str) ++ [V.str "same", V.str "same"])) = H6 at s6 e6 ⊢
  have s06 := (((s1.trans s2).trans s3).trans s5).trans s6
  refine ⟨by show 2 ≤ sizeLine; decide, fun p7 n7 => ?_⟩
  have s7 := same_new n7 (o := .lst [V.str "true", V.str "false"])
  have e7 : L2.upd H6 p7 (.lst [V.str "true", V.str "false"]) p7 = some (.lst [V.str "true", V.str "false"]) := upd_same
  generalize L2.upd H6 p7 (.lst [V.str "true", V.str "false"]) = H7 at s7 e7 ⊢
  have G7 := G.same (s06.trans s7)
  have n7g : p7 ≠ g := (G.same s06).ne n7
  have n6g : p6 ≠ g := (G.same (((s1.trans s2).trans s3).trans s5)).ne n6
  refine rand_read h0 G7 (by decide) (by decide) hn fun r H8 r0 r1 G8 bt => ⟨r, rfl, p7, _, rfl, SqL.of ((bt p7 n7g).trans e7), fun p9 n9 => ?_⟩
  rw [cut_takeX r0]
  have e6' := (bt p6 n6g).trans (s7 _ _ e6)
  have ne96 : p6 ≠ p9 := ne_of_none e6' n9
  refine ⟨p6, p9, _, _, rfl, rfl, by rw [upd_ne ne96]; exact e6', upd_same, ?_, fun p10 n10 => ?_⟩
  · rw [List.length_append, List.length_append, List.length_map, List.length_map, List.length_take, sizeLine_eq]
    show _ + 2 + min _ 2 ≤ _
    omega
  have n9g : p9 ≠ g := G8.ne n9
  have n10g : p10 ≠ g := (G8.upd n9g.symm).ne n10
  refine q p10 (((WA ++ WB) ++ [("same" : Str), "same"]) ++ [("true" : Str), "false"].take r.toNat) _ ?_ ((G8.upd n9g.symm).upd n10g.symm) n10g ?_ (fun y hy => ?_) (by simp) ?_
  · exact ((Keep.of_same (s06.trans s7)).trans (Keep.of_but bt)).trans (Keep.of_same ((same_new n9).trans (same_new n10)))
  · rw [upd_same, List.map_append, List.map_append, List.map_append, List.map_take]
    rfl
  · rcases List.mem_append.mp hy with hy | hy
    · rcases List.mem_append.mp hy with hy | hy
      · rcases List.mem_append.mp hy with hy | hy
        · rw [← hA] at hy
          exact .inl (way_rep hy)
        · rw [← hB] at hy
          exact .inr (.inl (way_rep hy))
      · simp only [List.mem_cons, List.not_mem_nil, or_false, or_self] at hy
        exact .inr (.inr (.inl hy))
    · have z := List.mem_of_mem_take hy
      simp only [List.mem_cons, List.not_mem_nil, or_false] at z
      exact .inr (.inr (.inr z))
  · rw [List.length_append, List.length_append, List.length_append, List.length_take]
    show _ + _ + 2 + min _ 2 ≤ 10
    omega
end
end DQ

set_option Elab.async false
set_option linter.all false
set_option maxRecDepth 100000
set_option maxHeartbeats 400000
namespace DQ
open PySem PySem.Spec PyProof.Rows L2
section
variable {P : Program} {w : World} {K : PySem.W.Frag} {mg : Str → Option Value} {base : Heap}
theorem seq_te {te : TE} {i : Nat} {rest : TS} {D : Ends} {σ : L2.St} {H : Hp} (Pz : V → Hp → Prop) (h1 : ∀ R : VK, (∀ x H2, Pz x H2 → R x H2) → te σ H R) (h2 : ∀ x H2, Pz x H2 → rest D (σ.set i (some x)) H2) : tSeq (tAsg te (gName i)) rest D σ H := h1 _ h2
theorem seq_par {ta : TA} {i j : Nat} {rest : TS} {D : Ends} {σ : L2.St} {H : Hp} (Pz : V → V → Hp → Prop) (h1 : ∀ R : List V → Hp → Prop, (∀ x y H2, Pz x y H2 → R [x, y] H2) → ta σ H R) (h2 : ∀ x y H2, Pz x y H2 → rest D ((σ.set i (some x)).set j (some y)) H2) : tSeq (tPar i j ta) rest D σ H := h1 _ fun x y H2 h => ⟨x, y, rfl, h2 x y H2 h⟩
theorem seq_any {ts rest : TS} {D : Ends} {σ : L2.St} {H : Hp} (Pz : L2.St → Hp → Prop) (h1 : ∀ D' : Ends, D'.rt = D.rt → (∀ σ' H', Pz σ' H' → D'.nx σ' H') → ts D' σ H) (h2 : ∀ σ' H', Pz σ' H' → rest D σ' H') : tSeq ts rest D σ H := h1 _ rfl h2
theorem ok_atom {f fr fp : Addr} {fd fdr fdp : FuncData} (F : Fun K "_law_drawn_atom" "_law_drawn_atom" sAtom f fd) (GR : FnOk P w K mg base CX0 2 fr fdr ["generator", "bound"] spRandom) (bR : Binds K fdr ["generator", "bound"] []) (kR : PySem.W.keepIn K (.ref fr) = true) (mR : mg "_law_random" = some (.ref fr))
    (GP : FnOk P w K mg base CX0 3 fp fdp ["generator", "things"] (spPickX K)) (bP : Binds K fdp ["generator", "things"] []) (kP : PySem.W.keepIn K (.ref fp) = true) (mP : mg "_law_pick" = some (.ref fp)) (mInt : mg "int" = none) (mLen : mg "len" = none) : FnOk P w K mg base CX0 4 f fd ["generator", "marks", "columns", "names"] (spAtom K) := by
  refine F.ok scAtom (fun vs H Q E h => ?_) (fun cdv A outer s H vs Q E hr h => ?_)
  · obtain ⟨_, _, _, _, _, _, _, _, rfl, _⟩ := h
    rfl
  obtain ⟨g, m, c, t, ms, cs, ns, n, rfl, Lm, Lc, Lt, nm, nc, nt, fm, fc, ft, lay, G, hn, q⟩ := h
  have nd := scAtom.nd
  refine ⟨_, pss_cons (ps_set (i := 4) nd rfl (.inl rfl) (pe_op op_cat (pe_op op_cat (pe_op op_cat
      (pe_op op_rep (pe_lst (pa_cons pe_str pa_nil)) (pe_op op_mul pe_int (pe_callTy call_int1 (by rfl) mInt (by decide +kernel) (pa_cons (pe_cmpR (r := rNeD K) (op_neD hr.units) (pv 1) (pe_lst pa_nil) (nomark _)) pa_nil))))
      (pe_op op_rep (pe_lst (pa_cons pe_str pa_nil)) (pe_op op_mul pe_int (pe_callTy call_int1 (by rfl) mInt (by decide +kernel) (pa_cons (pe_cmpR (r := rNeD K) (op_neD hr.units) (pv 2) (pe_lst pa_nil) (nomark _)) pa_nil)))))
      (pe_op op_rep (pe_lst (pa_cons pe_str pa_nil)) pe_int))
      (pe_slice (r := rSlL K) sl_list (pe_lst (pa_cons pe_str (pa_cons pe_str pa_nil))) po_none (po_some (pe_call GR (hr.mono (by decide)) rfl mR kR bR .nil pass0 (pa_cons (pv 0) (pa_cons pe_int pa_nil)))))))
    (pss_cons (ps_set (i := 5) nd rfl (.inl rfl) (pe_ifExp (pt_cmpR (r := rNeD K) (op_neD hr.units) (pv 3) (pe_lst pa_nil) (nomark _)) (pe_call GP (hr.mono (by decide)) rfl mP kP bP .nil pass0 (pa_cons (pv 0) (pa_cons (pv 4) pa_nil)))
      (pe_ix (r := rIxL K) ix_list (pe_lst (pa_cons pe_str (pa_cons pe_str pa_nil))) (pe_call GR (hr.mono (by decide)) rfl mR kR bR .nil pass0 (pa_cons (pv 0) (pa_cons pe_int pa_nil))) (fun _ _ => rfl))))
    (pss_cons (ps_if (pt_cmpR (r := rIn K false) op_in_seq (pv 5) (pe_lst (pa_cons pe_str (pa_cons pe_str pa_nil))) (by with_unfolding_all rfl)) (pss_one (ps_ret (pe_tup (pa_cons (pv 5) pa_nil)))) pss_nil)
    (pss_cons (ps_par (i := 6) (j := 7) rfl nd rfl rfl (by decide) rfl rfl (pa_cons (pe_call GP (hr.mono (by decide)) rfl mP kP bP .nil pass0 (pa_cons (pv 0) (pa_cons (pv 3) pa_nil))) (pa_cons (pe_call GP (hr.mono (by decide)) rfl mP kP bP .nil pass0 (pa_cons (pv 0) (pa_cons (pv 3) pa_nil))) pa_nil)) (by rfl))
    (pss_cons (ps_if (PW.pt (pw_and (pt_cmpR op_eq (pv 6) (pv 7) (nomark _)) (pw_and1 (pt_cmpR op_gt (pe_call GR (hr.mono (by decide)) rfl mR kR bR .nil pass0 (pa_cons (pv 0) (pa_cons pe_int pa_nil))) pe_int (nomark _)))))
      (pss_one (ps_set (i := 7) nd rfl (.inl rfl) (pe_ix (r := rIxL K) ix_list (pv 3) (pe_call GR (hr.mono (by decide)) rfl mR kR bR .nil pass0 (pa_cons (pv 0) (pa_cons (pe_callB call_len_seq (by rfl) mLen PySem.boot_len (pa_cons (pv 3) pa_nil)) pa_nil))) (fun _ _ => rfl)))) pss_nil)
    (pss_cons (ps_if (pt_cmpR op_eq (pv 5) pe_str (nomark _)) (pss_one (ps_ret (pe_tup (pa_cons pe_str (pa_cons (pe_call GP (hr.mono (by decide)) rfl mP kP bP .nil pass0 (pa_cons (pv 0) (pa_cons (pv 1) pa_nil))) (pa_cons (pv 6) pa_nil)))))) pss_nil)
    (pss_one (ps_ret (pe_ifExp (pt_cmpR op_eq (pv 5) pe_str (nomark _)) (pe_tup (pa_cons pe_str (pa_cons (pe_call GP (hr.mono (by decide)) rfl mP kP bP .nil pass0 (pa_cons (pv 0) (pa_cons (pv 2) pa_nil))) (pa_cons (pv 6) (pa_cons (pv 7) pa_nil))))) (pe_tup (pa_cons pe_str (pa_cons (pv 6) (pa_cons (pv 7) pa_nil)))))))))))), ?_⟩
  have layM := fun x h => lay x (.inl h)
  have layC := fun x h => lay x (.inr (.inl h))
  have layN := fun x h => lay x (.inr (.inr h))
  refine seq_te (fun x H1 => ∃ p W, x = .ref p ∧ Keep g H H1 ∧ Gen H1 g (n + 3) ∧ p ≠ g ∧ H1 p = some (.lst (W.map V.str)) ∧ (∀ y ∈ W, WayOk ms cs y) ∧ W ≠ [] ∧ W.length ≤ 10) (fun R hR => ways_read (g := g) rfl rfl rfl Lm Lc nm nc layM layC G (by omega) fun pw W H1 k1 G1 nw ew hW neW lenW => hR _ _ ⟨pw, W, rfl, k1, G1, nw, ew, hW, neW, lenW⟩) fun x H1 ⟨pw, W, ex, k1, G1, nw, ew, hW, neW, lenW⟩ => ?_
  subst ex
  show tSeq _ _ _ [some (V.ref g), some (.ref m), some (.ref c), some (.ref t), some (.ref pw), none, none, none] H1
  -- way
  have way : ∀ (R : VK), (∀ y H', WayOk ms cs y → (ns = [] → y = "true" ∨ y = "false") → Keep g H1 H' → Gen H' g (n + 6) → R (.str y) H') → tIf (tTest (tOp (rNeD K) (tVar 3) (tLst tNil))) (tCall (spPickX K) [] E0 (tCons (tVar 0) (tCons (tVar 4) tNil))) (tOp (rIxL K) (tLst (tCons (tC (V.str "true")) (tCons (tC (V.str "false")) tNil))) (tCall spRandom [] E0 (tCons (tVar 0) (tCons (tC (V.int 2)) tNil)))) [some (.ref g), some (.ref m), some (.ref c), some (.ref t), some (.ref pw), none, none, none] H1 R := fun R hR => by
    refine ne_read (xs := ns) rfl (k1.seq nt Lt) layN fun H2 s2 => ⟨_, rfl, ?_⟩
    by_cases z : ns = []
    · refine iteF' (by simp [z]) ⟨by show 2 ≤ sizeLine; decide, fun p np => ?_⟩
      have npg : p ≠ g := (G1.same s2).ne np
      refine rand_read rfl ((G1.same s2).upd npg.symm) (by decide) (by decide) (by omega) fun r H3 r0 r1 G3 bt => ?_
      have e3 : H3 p = some (.lst [V.str "true", V.str "false"]) := (bt p npg).trans upd_same
      have kk : Keep g H1 H3 := (Keep.of_same (s2.trans (same_new np))).trans (Keep.of_but bt)
      obtain rfl | rfl : r = 0 ∨ r = 1 := by omega
      · exact ⟨p, _, _, _, rfl, rfl, SqL.of e3, atI_nat (j := 0) rfl, hR _ _ (.inr (.inr (.inr (.inl rfl)))) (fun _ => .inl rfl) kk (G3.mono (by omega))⟩
      · exact ⟨p, _, _, _, rfl, rfl, SqL.of e3, atI_nat (j := 1) rfl, hR _ _ (.inr (.inr (.inr (.inr rfl)))) (fun _ => .inr rfl) kk (G3.mono (by omega))⟩
    · refine iteT' (by simp [z]) ?_
      exact pick_read rfl rfl (SqL.of (s2 _ _ ew)) nw neW (by omega) (G1.same s2) (by omega) fun y H3 hy G3 bt => hR y H3 (hW y hy) (fun e => absurd e z) ((Keep.of_same s2).trans (Keep.of_but bt)) (G3.mono (by omega))
  refine seq_te (fun x H2 => ∃ y, x = .str y ∧ WayOk ms cs y ∧ (ns = [] → y = "true" ∨ y = "false") ∧ Keep g H1 H2 ∧ Gen H2 g (n + 6)) (fun R hR => way R fun y H2 a b c d => hR _ _ ⟨y, rfl, a, b, c, d⟩) fun x H2 ⟨y, ex, oky, ny, k2, G2⟩ => ?_
  subst ex
  show tSeq _ _ _ [some (V.ref g), some (.ref m), some (.ref c), some (.ref t), some (.ref pw), some (.str y), none, none] H2
  clear way
  have k12 := k1.trans k2
  refine seq_any (fun σ' H' => σ' = [some (V.ref g), some (.ref m), some (.ref c), some (.ref t), some (.ref pw), some (.str y), none, none] ∧ Keep g H H' ∧ Gen H' g (n + 6) ∧ ((y = "mark" ∧ ms ≠ []) ∨ (y = "link" ∧ cs ≠ []) ∨ y = "same") ∧ ns ≠ []) (fun D' rt' nx' => ?_) fun σ' H3 ⟨e', k3, G3, kind, neN⟩ => ?_
  · refine ⟨.str y, rfl, by show 2 ≤ sizeLine; decide, fun p np => ?_⟩
    have s3 := same_new np (o := .lst [V.str "true", V.str "false"])
    have G3 := G2.same s3
    refine ⟨p, [V.str "true", V.str "false"], rfl, .inl (SqL.of upd_same), rfl, rfl, _, rfl, ?_⟩
    generalize L2.upd H2 p (.lst [V.str "true", V.str "false"]) = H3 at s3 G3 ⊢
    have k3 := k12.trans (Keep.of_same s3)
    have ret : ∀ b : Bool, y = trW b → tRet (tTup (tCons (tVar 5) tNil)) D' [some (V.ref g), some (.ref m), some (.ref c), some (.ref t), some (.ref pw), some (.str y), none, none] H3 := fun b e => by
      refine ⟨_, rfl, by show 1 ≤ sizeLine; decide, fun p2 np2 => ?_⟩
      rw [rt']
      refine q _ (.tr b) _ (.tr b) (k3.trans (Keep.of_same (same_new np2))) ((G3.same (same_new np2)).mono (by omega)) (.tup (SqT.of upd_same) ?_)
      rw [e]
      exact .cons (.str _) .nil
    have go : ((y = "mark" ∧ ms ≠ []) ∨ (y = "link" ∧ cs ≠ []) ∨ y = "same") → inV (V.str y) [V.str "true", V.str "false"] = false → ns ≠ [] → if inV (V.str y) [V.str "true", V.str "false"] = true then tRet (tTup (tCons (tVar 5) tNil)) D' [some (V.ref g), some (.ref m), some (.ref c), some (.ref t), some (.ref pw), some (.str y), none, none] H3 else tNext D' [some (V.ref g), some (.ref m), some (.ref c), some (.ref t), some (.ref pw), some (.str y), none, none] H3 := fun a b c => iteF' b (nx' _ _ ⟨rfl, k3, G3, a, c⟩)
    rcases oky with ⟨e, h⟩ | ⟨e, h⟩ | e | e | e
    · exact go (.inl ⟨e, h⟩) (by rw [e]; decide +kernel) fun z => by rcases ny z with z | z <;> (rw [e] at z; exact absurd z (by decide +kernel))
    · exact go (.inr (.inl ⟨e, h⟩)) (by rw [e]; decide +kernel) fun z => by rcases ny z with z | z <;> (rw [e] at z; exact absurd z (by decide +kernel))
    · exact go (.inr (.inr e)) (by rw [e]; decide +kernel) fun z => by rcases ny z with z | z <;> (rw [e] at z; exact absurd z (by decide +kernel))
    · exact iteT' (by rw [e]; decide +kernel) (ret true e)
    · exact iteT' (by rw [e]; decide +kernel) (ret false e)
  subst e'
  have lt3 := fun {H' : Hp} (k : Keep g H H') => k.seq nt Lt
  refine seq_par (fun x z H' => ∃ x1 x2, x = .str x1 ∧ z = .str x2 ∧ x1 ∈ ns ∧ x2 ∈ ns ∧ Keep g H H' ∧ Gen H' g (n + 12)) (fun R hR => ?_) fun x z H5 ⟨x1, x2, ex, ez, m1, m2, k5, G5⟩ => ?_
  · refine pick_read rfl rfl (lt3 k3) nt neN (by omega) G3 (by omega) fun x1 H4 m1 G4 b4 => ?_
    have k4 := k3.trans (Keep.of_but b4)
    refine pick_read rfl rfl (lt3 k4) nt neN (by omega) G4 (by omega) fun x2 H5 m2 G5 b5 => ?_
    exact hR _ _ _ ⟨x1, x2, rfl, rfl, m1, m2, k4.trans (Keep.of_but b5), G5.mono (by omega)⟩
  subst ex
  subst ez
  show tSeq _ _ _ [some (V.ref g), some (.ref m), some (.ref c), some (.ref t), some (.ref pw), some (.str y), some (.str x1), some (.str x2)] H5
  refine seq_any (fun σ' H' => ∃ x3, σ' = [some (V.ref g), some (.ref m), some (.ref c), some (.ref t), some (.ref pw), some (.str y), some (.str x1), some (.str x3)] ∧ x3 ∈ ns ∧ Keep g H H' ∧ Gen H' g (n + 18)) (fun D' rt' nx' => ?_) fun σ' H6 ⟨x3, e', m3, k6, G6⟩ => ?_
  · refine ⟨_, rfl, _, rfl, rfl, _, rfl, ?_⟩
    by_cases z : V.str x1 = V.str x2
    · refine iteT' (decide_eq_true z) ?_
      refine rand_read rfl G5 (by decide) (by decide) (by omega) fun r H6 r0 r1 G6 b6 => ⟨r, 0, rfl, rfl, _, rfl, ?_⟩
      have k6 := k5.trans (Keep.of_but b6)
      by_cases pos : 0 < r
      · refine iteT' (decide_eq_true pos) ?_
        refine ⟨_, rfl, .ref g, rfl, .ref t, rfl, t, _, rfl, .inl (lt3 k6), ?_⟩
        refine nil_read ?_
        rw [List.length_map]
        have pl : 1 ≤ ns.length := Nat.pos_of_ne_zero fun e => neN (List.length_eq_zero_iff.mp e)
        show spRandom [.ref g, .int (ns.length : Nat)] H6 _ _
        refine ⟨g, _, _, rfl, G6, by omega, by omega, by omega, fun r2 H7 a0 a1 G7 b7 => ?_⟩
        obtain ⟨j, rfl⟩ : ∃ j : Nat, r2 = (j : Int) := ⟨r2.toNat, by omega⟩
        have hj : j < ns.length := by omega
        have ej : ns[j]? = some ns[j] := List.getElem?_eq_getElem hj
        have k7 := k6.trans (Keep.of_but b7)
        exact ⟨t, _, _, _, rfl, rfl, lt3 k7, atI_nat (j := j) (show (ns.map V.str)[j]? = some (.str ns[j]) by rw [List.getElem?_map, ej]; rfl), nx' _ _ ⟨_, rfl, List.getElem_mem hj, k7, G7.mono (by omega)⟩⟩
      · exact iteF' (decide_eq_false pos) (nx' _ _ ⟨_, rfl, m2, k6, G6.mono (by omega)⟩)
    · exact iteF' (decide_eq_false z) (iteF' rfl (nx' _ _ ⟨_, rfl, m2, k5, G5.mono (by omega)⟩))
  subst e'
  have G21 : Gen H6 g (n + 18) := G6
  refine seq_any (fun σ' H' => σ' = [some (V.ref g), some (.ref m), some (.ref c), some (.ref t), some (.ref pw), some (.str y), some (.str x1), some (.str x3)] ∧ H' = H6 ∧ y ≠ "mark") (fun D' rt' nx' => ?_) fun σ' H7 ⟨e', eH, nmk⟩ => ?_
  · refine ⟨_, rfl, rfl, _, rfl, ?_⟩
    by_cases z : V.str y = V.str "mark"
    · refine iteT' (decide_eq_true z) ?_
      have ym : y = "mark" := by injection z
      have neM : ms ≠ [] := by
        rcases kind with ⟨_, h⟩ | ⟨e, _⟩ | e
        · exact h
        · rw [ym] at e; exact absurd e (by decide +kernel)
        · rw [ym] at e; exact absurd e (by decide +kernel)
      refine pick_read rfl rfl (k6.seq nm Lm) nm neM (by omega) G6 (by omega) fun w H7 mw G7 b7 => ⟨_, rfl, by show 3 ≤ sizeLine; decide, fun p np => ?_⟩
      rw [rt']
      have s := same_new np (o := .tup [.str "mark", .str w, .str x1])
      exact q _ (.mk w x1) _ (.mk mw m1) ((k6.trans (Keep.of_but b7)).trans (Keep.of_same s)) ((G7.same s).mono (by omega)) (.tup (SqT.of upd_same) (.cons (.str _) (.cons (.str _) (.cons (.str _) .nil))))
    · exact iteF' (decide_eq_false z) (nx' _ _ ⟨rfl, rfl, fun e => z (by rw [e])⟩)
  subst e'
  subst eH
  refine ⟨_, rfl, rfl, _, rfl, ?_⟩
  by_cases z : V.str y = V.str "link"
  · refine iteT' (decide_eq_true z) ?_
    have yl : y = "link" := by injection z
    have neC : cs ≠ [] := by
      rcases kind with ⟨e, _⟩ | ⟨_, h⟩ | e
      · exact absurd e nmk
      · exact h
      · rw [yl] at e; exact absurd e (by decide +kernel)
    refine pick_read rfl rfl (k6.seq nc Lc) nc neC (by omega) G6 (by omega) fun w H8 mw G8 b8 => ⟨_, rfl, _, rfl, by show 4 ≤ sizeLine; decide, fun p np => ?_⟩
    have s := same_new np (o := .tup [.str "link", .str w, .str x1, .str x3])
    exact q _ (.lk w x1 x3) _ (.lk mw m1 m3) ((k6.trans (Keep.of_but b8)).trans (Keep.of_same s)) ((G8.same s).mono (by omega)) (.tup (SqT.of upd_same) (.cons (.str _) (.cons (.str _) (.cons (.str _) (.cons (.str _) .nil)))))
  · refine iteF' (decide_eq_false z) ⟨_, rfl, _, rfl, by show 3 ≤ sizeLine; decide, fun p np => ?_⟩
    have s := same_new np (o := .tup [.str "same", .str x1, .str x3])
    exact q _ (.sm x1 x3) _ (.sm m1 m3) (k6.trans (Keep.of_same s)) ((G6.same s).mono (by omega)) (.tup (SqT.of upd_same) (.cons (.str _) (.cons (.str _) (.cons (.str _) .nil))))
end
end DQ

set_option Elab.async false
set_option linter.all false
set_option maxRecDepth 100000
set_option maxHeartbeats 1000000
namespace DQ
open PySem PySem.Spec PyProof.Rows L2
/-! ### _law_drawn_part -/
abbrev sPart : Stmt := topS 37
abbrev NPa : List Str := ["generator", "words", "names", "deep", "purse", "way", "x", "one"]
abbrev PPa : List Str := ["generator", "words", "names", "deep", "purse"]
theorem scPart : FnScope NPa PPa (defScope sPart) := ⟨rfl, rfl, rfl, by decide +kernel, rfl, by decide +kernel, by decide +kernel⟩
/-- how much is drawn at most -/
def costQ : Nat → Int
  | 0 => 24
  | k + 1 => 6 + 2 * costQ k
theorem cost_pos : ∀ k, 24 ≤ costQ k
  | 0 => Int.le_refl _
  | k + 1 => by
    have := cost_pos k
    show 24 ≤ 6 + 2 * costQ k
    omega
theorem sqT_keep {K : PySem.W.Frag} {H H' : Hp} {g a : Addr} {n : Int} {xs : List V} (h : SqT K H a xs) (G : Gen H g n) (k : Keep g H H') : SqT K H' a xs := by
  obtain ⟨_, _, _, eg, _⟩ := G
  rcases h with (h | ⟨o, h⟩) | h
  · exact .inl (.inl (k _ _ (fun e => by rw [e, eg] at h; cases h) h))
  · exact .inl (.inr ⟨o, k _ _ (fun e => by rw [e, eg] at h; cases h) h⟩)
  · exact .inr h
/-- a question stays while the law draws on -/
theorem dq_keep {K : PySem.W.Frag} {H H' : Hp} {g : Addr} {n : Int} (G : Gen H g n) (k : Keep g H H') : ∀ (q : Qn) {v : V}, Dp K H v q.d → Dp K H' v q.d := fun q => by
  have str : ∀ {v : V} {x : Str}, Dp K H v (.str x) → Dp K H' v (.str x) := fun h => by cases h; exact .str _
  have tup : ∀ {v : V} {ds : List PyData}, Dp K H v (.tuple ds) → (∀ xs, DpAll K H xs ds → DpAll K H' xs ds) → Dp K H' v (.tuple ds) := fun h f => by
    cases h with
    | tup s r => exact .tup (sqT_keep s G k) (f _ r)
  have nil : ∀ xs, DpAll K H xs [] → DpAll K H' xs [] := fun xs h => by cases h; exact .nil
  have cons : ∀ {d : PyData} {ds : List PyData}, (∀ v, Dp K H v d → Dp K H' v d) → (∀ xs, DpAll K H xs ds → DpAll K H' xs ds) → ∀ xs, DpAll K H xs (d :: ds) → DpAll K H' xs (d :: ds) := fun f1 f2 xs h => by
    cases h with
    | cons a r => exact .cons (f1 _ a) (f2 _ r)
  induction q with
  | tr b => exact fun h => tup h (cons (fun _ => str) nil)
  | mk m x => exact fun h => tup h (cons (fun _ => str) (cons (fun _ => str) (cons (fun _ => str) nil)))
  | lk c x y => exact fun h => tup h (cons (fun _ => str) (cons (fun _ => str) (cons (fun _ => str) (cons (fun _ => str) nil))))
  | sm x y => exact fun h => tup h (cons (fun _ => str) (cons (fun _ => str) (cons (fun _ => str) nil)))
  | nt a ih => exact fun h => tup h (cons (fun _ => str) (cons (fun _ => ih) nil))
  | cn b a c ia ic => exact fun h => tup h (cons (fun _ => str) (cons (fun _ => ia) (cons (fun _ => ic) nil)))
  | qu b x a ia => exact fun h => tup h (cons (fun _ => str) (cons (fun _ => str) (cons (fun _ => ia) nil)))
section
variable {P : Program} {w : World} {K : PySem.W.Frag} {mg : Str → Option Value} {base : Heap}
def spPart (K : PySem.W.Frag) (N : Nat) : Sp := fun vs H Q _ => ∃ (g l t m c : Addr) (ms cs ns : List Str) (k p : Nat) (n : Int), vs = [.ref g, .ref l, .ref t, .int (k : Nat), .int (p : Nat)] ∧ SqL K H l [.ref m, .ref c] ∧ SqL K H m (ms.map V.str) ∧ SqL K H c (cs.map V.str) ∧ H t = some (.lst (ns.map V.str)) ∧ l ≠ g ∧ m ≠ g ∧ c ≠ g ∧ t ≠ g ∧
  ms.length ≤ 10 ∧ cs.length ≤ 10 ∧ ns.length + k ≤ 10 ∧ (∀ x, x ∈ ms ∨ x ∈ cs ∨ x ∈ ns → PyData.canLay0 (.str x) = true) ∧ k ≤ 4 ∧ 1 ≤ p ∧ p ≤ 100 ∧ k + p ≤ N ∧ Gen H g n ∧ n + costQ N ≤ 1073741824 ∧
  ∀ v q H', Dq ms cs ns k p q → Keep g H H' → Gen H' g (n + costQ N) → Dp K H' v q.d → Q v H'
theorem or_read {t u : TT} {σ : L2.St} {H : Hp} {R : Bool → Hp → Prop} {b c : Bool} (Pz : Hp → Prop) (h1 : ∀ R : Bool → Hp → Prop, (∀ H', Pz H' → R b H') → t σ H R) (h2 : ∀ H', Pz H' → ∀ R : Bool → Hp → Prop, R c H' → u σ H' R) (q : ∀ H', Pz H' → R (b || c) H') : tOr t u σ H R :=
  h1 _ fun H' h => by
    cases b with
    | true => exact q H' h
    | false => exact h2 H' h _ (q H' h)
theorem and_read {t u : TT} {σ : L2.St} {H : Hp} {R : Bool → Hp → Prop} {b c : Bool} (Pz : Hp → Prop) (h1 : ∀ R : Bool → Hp → Prop, R b H → t σ H R) (h2 : ∀ R : Bool → Hp → Prop, (∀ H', Pz H' → R c H') → u σ H R) (h0 : Pz H) (q : ∀ H', Pz H' → R (b && c) H') : tAnd t u σ H R :=
  h1 _ (by
    cases b with
    | true => exact h2 _ q
    | false => exact q H h0)
theorem eq_nil_strs (xs : List Str) : PyData.eqv (.list (xs.map PyData.str)) (.list []) = decide (xs = []) := by
  cases xs with
  | nil => rfl
  | cons x xs => rfl
theorem two_read {σ : L2.St} {H : Hp} {R : VK} {g : Addr} {n : Int} {a b : Str} (h0 : σ[0]? = some (some (.ref g))) (G : Gen H g n) (hn : n + 3 ≤ 1073741824) (q : ∀ (c : Bool) H', Keep g H H' → Gen H' g (n + 3) → R (.str (if c = true then a else b)) H') :
    tOp (rIxL K) (tLst (tCons (tC (V.str a)) (tCons (tC (V.str b)) tNil))) (tCall spRandom [] E0 (tCons (tVar 0) (tCons (tC (.int 2)) tNil))) σ H R := by
  refine ⟨by show 2 ≤ sizeLine; decide, fun p np => ?_⟩
  have s := same_new np (o := .lst [V.str a, V.str b])
  have npg := G.ne np
  refine rand_read h0 (G.same s) (by decide) (by decide) hn fun r H' r0 r1 G' bt => ?_
  have e : H' p = some (.lst [V.str a, V.str b]) := (bt p npg).trans upd_same
  have k := (Keep.of_same s).trans (Keep.of_but bt)
  obtain rfl | rfl : r = 0 ∨ r = 1 := by omega
  · exact ⟨p, _, _, _, rfl, rfl, SqL.of e, atI_nat (j := 0) rfl, q true H' k G'⟩
  · exact ⟨p, _, _, _, rfl, rfl, SqL.of e, atI_nat (j := 1) rfl, q false H' k G'⟩
theorem uvwt_at : ∀ j : Nat, j ≤ 3 → ∃ c, atI ("uvwt" : Str).cps.toList (((j + 1 : Nat) : Int) - 1) = some c ∧ (⟨#[c]⟩ : Str) = uvwt (j + 1) ∧ PyData.canLay0 (.str (uvwt (j + 1))) = true
  | 0, _ => ⟨117, by decide +kernel, by decide +kernel, by decide +kernel⟩
  | 1, _ => ⟨118, by decide +kernel, by decide +kernel, by decide +kernel⟩
  | 2, _ => ⟨119, by decide +kernel, by decide +kernel, by decide +kernel⟩
  | 3, _ => ⟨116, by decide +kernel, by decide +kernel, by decide +kernel⟩
  | j + 4, h => by omega
theorem part_none {f : Addr} {fd : FuncData} (F : Fun K "_law_drawn_part" "_law_drawn_part" sPart f fd) : FnOk P w K mg base CX0 5 f fd PPa (spPart K 0) := by
  refine F.ok scPart (fun vs H Q E h => ?_) (fun cdv A outer s H vs Q E hr h => ?_)
  · obtain ⟨_, _, _, _, _, _, _, _, _, _, _, rfl, _⟩ := h
    rfl
  · obtain ⟨_, _, _, _, _, _, _, _, k, p, _, _, _, _, _, _, _, _, _, _, _, _, _, _, _, h1, _, h2, _⟩ := h
    omega
theorem part_step {N : Nat} {f fr fa : Addr} {fd fdr fda : FuncData} (F : Fun K "_law_drawn_part" "_law_drawn_part" sPart f fd) (GR : FnOk P w K mg base CX0 2 fr fdr ["generator", "bound"] spRandom) (bR : Binds K fdr ["generator", "bound"] []) (kR : PySem.W.keepIn K (.ref fr) = true) (mR : mg "_law_random" = some (.ref fr))
    (GA : FnOk P w K mg base CX0 4 fa fda ["generator", "marks", "columns", "names"] (spAtom K)) (bA : Binds K fda ["generator", "marks", "columns", "names"] []) (kA : PySem.W.keepIn K (.ref fa) = true) (mA : mg "_law_drawn_atom" = some (.ref fa))
    (GI : FnOk P w K mg base CX0 (N + 5) f fd PPa (spPart K N)) (bI : Binds K fd PPa []) (kI : PySem.W.keepIn K (.ref f) = true) (mI : mg "_law_drawn_part" = some (.ref f)) : FnOk P w K mg base CX0 (N + 6) f fd PPa (spPart K (N + 1)) := by
  refine F.ok scPart (fun vs H Q E h => ?_) (fun cdv A outer s H vs Q E hr h => ?_)
  · obtain ⟨_, _, _, _, _, _, _, _, _, _, _, rfl, _⟩ := h
    rfl
  obtain ⟨g, l, t, m, c, ms, cs, ns, k, p, n, rfl, Ll, Lm, Lc, et, nl, nm, nc, nt, fm, fc, fn, lay, k4, p1, p100, meas, G, hn, q⟩ := h
  have nd := scPart.nd
  refine ⟨_, pss_cons (ps_set (i := 5) nd rfl (.inl rfl) (pe_call GR (hr.mono (by omega)) rfl mR kR bR .nil pass0 (pa_cons (pv 0) (pa_cons pe_int pa_nil))))
    (pss_cons (ps_if (PW.pt (pw_and (pt_cmpR op_gt (pv 3) pe_int (nomark _)) (pw_and1 (PW.pt (pw_or (pt_cmpR (r := rEqD K) (op_eqD hr.units) (pv 2) (pe_lst pa_nil) (nomark _)) (pw_or1 (pt_cmpR op_gt (pv 5) pe_int (nomark _))))))))
      (pss_cons (ps_set (i := 6) nd rfl (.inl rfl) (pe_ix (r := rIxS) ix_str pe_str (pe_op op_sub (pv 3) pe_int) (fun _ _ => rfl)))
        (pss_one (ps_ret (pe_tup (pa_cons (pe_ix (r := rIxL K) ix_list (pe_lst (pa_cons pe_str (pa_cons pe_str pa_nil))) (pe_call GR (hr.mono (by omega)) rfl mR kR bR .nil pass0 (pa_cons (pv 0) (pa_cons pe_int pa_nil))) (fun _ _ => rfl)) (pa_cons (pv 6)
          (pa_cons (pe_call GI (hr.mono (by omega)) rfl mI kI bI .nil pass0 (pa_cons (pv 0) (pa_cons (pv 1) (pa_cons (pe_op op_cat (pv 2) (pe_lst (pa_cons (pv 6) pa_nil))) (pa_cons (pe_op op_sub (pv 3) pe_int) (pa_cons (pv 4) pa_nil)))))) pa_nil))))))) pss_nil)
    (pss_cons (ps_if (PW.pt (pw_or (pt_cmpR op_lt (pv 4) pe_int (nomark _)) (pw_or1 (pt_cmpR op_eq (pv 5) pe_int (nomark _)))))
      (pss_one (ps_ret (pe_call GA (hr.mono (by omega)) rfl mA kA bA .nil pass0 (pa_cons (pv 0) (pa_cons (pe_ix (r := rIxL K) ix_list (pv 1) pe_int (fun _ _ => rfl)) (pa_cons (pe_ix (r := rIxL K) ix_list (pv 1) pe_int (fun _ _ => rfl)) (pa_cons (pv 2) pa_nil))))))) pss_nil)
    (pss_cons (ps_if (pt_cmpR op_eq (pv 5) pe_int (nomark _))
      (pss_one (ps_ret (pe_tup (pa_cons pe_str (pa_cons (pe_call GI (hr.mono (by omega)) rfl mI kI bI .nil pass0 (pa_cons (pv 0) (pa_cons (pv 1) (pa_cons (pv 2) (pa_cons (pv 3) (pa_cons (pe_op op_sub (pv 4) pe_int) pa_nil)))))) pa_nil))))) pss_nil)
    (pss_cons (ps_set (i := 7) nd rfl (.inl rfl) (pe_call GI (hr.mono (by omega)) rfl mI kI bI .nil pass0 (pa_cons (pv 0) (pa_cons (pv 1) (pa_cons (pv 2) (pa_cons (pv 3) (pa_cons (pe_op op_fdiv (pv 4) pe_int) pa_nil)))))))
    (pss_one (ps_ret (pe_tup (pa_cons (pe_ix (r := rIxL K) ix_list (pe_lst (pa_cons pe_str (pa_cons pe_str pa_nil))) (pe_call GR (hr.mono (by omega)) rfl mR kR bR .nil pass0 (pa_cons (pv 0) (pa_cons pe_int pa_nil))) (fun _ _ => rfl)) (pa_cons (pv 7)
      (pa_cons (pe_call GI (hr.mono (by omega)) rfl mI kI bI .nil pass0 (pa_cons (pv 0) (pa_cons (pv 1) (pa_cons (pv 2) (pa_cons (pv 3) (pa_cons (pe_op op_sub (pv 4) (pe_op op_fdiv (pv 4) pe_int)) pa_nil)))))) pa_nil)))))))))), ?_⟩
  have cp := cost_pos N
  have hC : costQ (N + 1) = 6 + 2 * costQ N := rfl
  rw [hC] at hn q
  refine seq_te (fun x H1 => ∃ r : Int, x = .int r ∧ 0 ≤ r ∧ r < 9 ∧ Keep g H H1 ∧ Gen H1 g (n + 3)) (fun R hR => rand_read rfl G (by decide) (by decide) (by omega) fun r H1 r0 r1 G1 b1 => hR _ _ ⟨r, rfl, r0, r1, Keep.of_but b1, G1⟩) fun x H1 ⟨r, ex, r0, r9, k1, G1⟩ => ?_
  subst ex
  show tSeq _ _ _ [some (V.ref g), some (.ref l), some (.ref t), some (.int (k : Nat)), some (.int (p : Nat)), some (.int r), none, none] H1
  refine seq_any (fun σ' H' => σ' = [some (V.ref g), some (.ref l), some (.ref t), some (.int (k : Nat)), some (.int (p : Nat)), some (.int r), none, none] ∧ Keep g H H' ∧ Gen H' g (n + 3)) (fun D' rt' nx' => ?_) fun σ' H2 ⟨e', k2, G2⟩ => ?_
  · refine and_read (b := decide (0 < (k : Int))) (c := decide (ns = []) || decide (5 < r)) (fun H' => Keep g H H' ∧ Gen H' g (n + 3)) (fun R hR => ⟨_, rfl, _, _, rfl, rfl, _, rfl, hR⟩) (fun R hR => or_read (b := decide (ns = [])) (c := decide (5 < r)) (fun H' => Keep g H H' ∧ Gen H' g (n + 3)) (fun R hR => ?_) (fun H' _ R hR => ⟨_, rfl, _, _, rfl, rfl, _, rfl, hR⟩) hR) ⟨k1, G1⟩ fun H2 ⟨k2, G2⟩ => ?_
    · refine ⟨_, rfl, Nat.zero_le _, fun p np => ?_⟩
      have s := same_new np (o := .lst [])
      refine ⟨_, .list [], .lst (SqL.of (s _ _ (k1 _ _ nt et))) (dp_strs ns), .lst (SqL.of upd_same) .nil, sh_strs (fun x h => lay x (.inr (.inr h))), by decide +kernel, _, rfl, ?_⟩
      rw [eq_nil_strs]
      exact hR _ ⟨k1.trans (Keep.of_same s), G1.same s⟩
    · cases hb : (decide (0 < (k : Int)) && (decide (ns = []) || decide (5 < r))) with
      | false => exact iteF' rfl (nx' _ _ ⟨rfl, k2, G2⟩)
      | true =>
        refine iteT' rfl ?_
        have kpos : 0 < k := by
          rw [Bool.and_eq_true] at hb
          have := of_decide_eq_true hb.1
          omega
        obtain ⟨j, rfl⟩ : ∃ j, k = j + 1 := ⟨k - 1, by omega⟩
        obtain ⟨ch, a1, a2, a3⟩ := uvwt_at j (by omega)
        refine seq_te (fun x H' => x = .str (uvwt (j + 1)) ∧ H' = H2) (fun R hR => ⟨_, rfl, _, _, rfl, rfl, _, _, ch, rfl, rfl, by show 4 ≤ sizeLine; decide, a1, hR _ _ ⟨by rw [a2], rfl⟩⟩) fun x H3 ⟨ex, eH⟩ => ?_
        subst ex
        subst eH
        show tRet _ D' [some (V.ref g), some (.ref l), some (.ref t), some (.int ((j + 1 : Nat) : Int)), some (.int (p : Nat)), some (.int r), some (.str (uvwt (j + 1))), none] H3
        refine two_read (g := g) rfl G2 (by omega) fun b H4 k4' G4 => ⟨_, rfl, ?_⟩
        have k4 := k2.trans k4'
        refine ⟨.ref g, rfl, .ref l, rfl, .ref t, rfl, .str (uvwt (j + 1)), rfl, by show 1 ≤ sizeLine; decide, fun pa npa => ?_⟩
        have s1 := same_new npa (o := .lst [V.str (uvwt (j + 1))])
        have k5 := k4.trans (Keep.of_same s1)
        have lenN : (ns.map V.str).length ≤ 10 := by rw [List.length_map]; omega
        refine ⟨t, pa, _, _, rfl, rfl, k5 _ _ nt et, upd_same, by show _ + 1 ≤ sizeLine; rw [sizeLine_eq]; omega, fun p2 np2 => ?_⟩
        have G5 := G4.same s1
        have n2g := G5.ne np2
        have s2 := same_new np2 (o := .lst (ns.map V.str ++ [V.str (uvwt (j + 1))]))
        have G6 := G5.same s2
        have k6 := k5.trans (Keep.of_same s2)
        have e6 : L2.upd (L2.upd H4 pa (.lst [V.str (uvwt (j + 1))])) p2 (.lst (ns.map V.str ++ [V.str (uvwt (j + 1))])) p2 = some (.lst ((ns ++ [uvwt (j + 1)]).map V.str)) := by rw [upd_same, List.map_append]; rfl
        generalize L2.upd (L2.upd H4 pa (.lst [V.str (uvwt (j + 1))])) p2 (.lst (ns.map V.str ++ [V.str (uvwt (j + 1))])) = H6 at s2 G6 k6 e6 ⊢
        refine ⟨.int ((j + 1 : Nat) : Int), rfl, _, _, rfl, rfl, .int (p : Nat), rfl, ?_⟩
        refine nil_read ?_
        show spPart K N [.ref g, .ref l, .ref p2, .int (((j + 1 : Nat) : Int) - 1), .int (p : Nat)] H6 _ _
        rw [show (((j + 1 : Nat) : Int) - 1) = (j : Nat) by omega]
        refine ⟨g, l, p2, m, c, ms, cs, ns ++ [uvwt (j + 1)], j, p, n + 6, rfl, k6.seq nl Ll, k6.seq nm Lm, k6.seq nc Lc, e6, nl, nm, nc, n2g, fm, fc, by rw [List.length_append, List.length_singleton]; omega, fun x hx => ?_, by omega, p1, p100, by omega, by simpa only [show n + 3 + 3 = n + 6 by omega] using G6, by omega, fun v a H7 dq k7 G7 dp => ?_⟩
        · rcases hx with h | h | h
          · exact lay x (.inl h)
          · exact lay x (.inr (.inl h))
          · rcases List.mem_append.mp h with h | h
            · exact lay x (.inr (.inr h))
            · rw [List.mem_singleton.mp h]; exact a3
        refine nil_read ⟨by show 3 ≤ sizeLine; decide, fun p5 np5 => ?_⟩
        rw [rt']
        have s5 := same_new np5 (o := .tup [V.str (if b = true then "some" else "all"), .str (uvwt (j + 1)), v])
        exact q _ (.qu b (uvwt (j + 1)) a) _ (.qu dq) ((k6.trans k7).trans (Keep.of_same s5)) ((G7.same s5).mono (by omega)) (.tup (SqT.of upd_same) (.cons (.str _) (.cons (.str _) (.cons (dq_keep G7 (Keep.of_same s5) a dp) .nil))))
  subst e'
  refine seq_any (fun σ' H' => σ' = [some (V.ref g), some (.ref l), some (.ref t), some (.int (k : Nat)), some (.int (p : Nat)), some (.int r), none, none] ∧ H' = H2 ∧ 2 ≤ p) (fun D' rt' nx' => ?_) fun σ' H3 ⟨e', eH, p2⟩ => ?_
  · refine or_read (b := decide ((p : Int) < 2)) (c := decide (V.int r = V.int 0)) (fun H' => H' = H2) (fun R hR => ⟨_, rfl, _, _, rfl, rfl, _, rfl, hR _ rfl⟩) (fun H' e R hR => ⟨_, rfl, rfl, _, rfl, hR⟩) fun H' e => ?_
    subst e
    cases hb : (decide ((p : Int) < 2) || decide (V.int r = V.int 0)) with
    | false =>
      refine iteF' rfl (nx' _ _ ⟨rfl, rfl, ?_⟩)
      rw [Bool.or_eq_false_iff] at hb
      have := of_decide_eq_false hb.1
      omega
    | true =>
      refine iteT' rfl ⟨.ref g, rfl, .ref l, rfl, l, _, 0, .ref m, rfl, rfl, k2.seq nl Ll, atI_nat (j := 0) rfl, .ref l, rfl, l, _, 1, .ref c, rfl, rfl, k2.seq nl Ll, atI_nat (j := 1) rfl, .ref t, rfl, ?_⟩
      refine nil_read ?_
      show spAtom K [.ref g, .ref m, .ref c, .ref t] H' _ _
      refine ⟨g, m, c, t, ms, cs, ns, n + 3, rfl, k2.seq nm Lm, k2.seq nc Lc, SqL.of (k2 _ _ nt et), nm, nc, nt, fm, fc, by omega, lay, G2, by omega, fun v a H4 at4 k4' G4 dp => ?_⟩
      rw [rt']
      exact q _ a _ (at4.dq k p) (k2.trans k4') (G4.mono (by omega)) dp
  subst e'
  subst eH
  refine seq_any (fun σ' H' => σ' = [some (V.ref g), some (.ref l), some (.ref t), some (.int (k : Nat)), some (.int (p : Nat)), some (.int r), none, none] ∧ H' = H3) (fun D' rt' nx' => ?_) fun σ' H4 ⟨e', eH⟩ => ?_
  · refine ⟨_, rfl, rfl, _, rfl, ?_⟩
    by_cases z : V.int r = V.int 1
    · refine iteT' (decide_eq_true z) ?_
      refine ⟨.ref g, rfl, .ref l, rfl, .ref t, rfl, .int (k : Nat), rfl, .int (p : Nat), rfl, _, _, rfl, rfl, ?_⟩
      refine nil_read ?_
      obtain ⟨p', rfl⟩ : ∃ p', p = p' + 1 := ⟨p - 1, by omega⟩
      show spPart K N [.ref g, .ref l, .ref t, .int (k : Nat), .int (((p' + 1 : Nat) : Int) - 1)] H3 _ _
      rw [show (((p' + 1 : Nat) : Int) - 1) = (p' : Nat) by omega]
      refine ⟨g, l, t, m, c, ms, cs, ns, k, p', n + 3, rfl, k2.seq nl Ll, k2.seq nm Lm, k2.seq nc Lc, k2 _ _ nt et, nl, nm, nc, nt, fm, fc, fn, lay, k4, by omega, by omega, by omega, G2, by omega, fun v a H7 dq k7 G7 dp => ?_⟩
      refine nil_read ⟨by show 2 ≤ sizeLine; decide, fun p5 np5 => ?_⟩
      rw [rt']
      have s5 := same_new np5 (o := .tup [V.str "not", v])
      exact q _ (.nt a) _ (.nt dq) ((k2.trans k7).trans (Keep.of_same s5)) ((G7.same s5).mono (by omega)) (.tup (SqT.of upd_same) (.cons (.str _) (.cons (dq_keep G7 (Keep.of_same s5) a dp) .nil)))
    · exact iteF' (decide_eq_false z) (nx' _ _ ⟨rfl, rfl⟩)
  subst e'
  subst eH
  have half : ((p : Nat) : Int) / 2 = ((p / 2 : Nat) : Int) := by omega
  refine seq_te (fun x H' => ∃ a, Dq ms cs ns k (p / 2) a ∧ Keep g H H' ∧ Gen H' g (n + 3 + costQ N) ∧ Dp K H' x a.d) (fun R hR => ?_) fun x H5 ⟨a, da, k5, G5, dpa⟩ => ?_
  · refine ⟨.ref g, rfl, .ref l, rfl, .ref t, rfl, .int (k : Nat), rfl, .int (p : Nat), rfl, _, _, rfl, rfl, ⟨by decide, by decide⟩, ?_⟩
    refine nil_read ?_
    show spPart K N [.ref g, .ref l, .ref t, .int (k : Nat), .int ((p : Int) / 2)] H4 _ _
    rw [half]
    exact ⟨g, l, t, m, c, ms, cs, ns, k, p / 2, n + 3, rfl, k2.seq nl Ll, k2.seq nm Lm, k2.seq nc Lc, k2 _ _ nt et, nl, nm, nc, nt, fm, fc, fn, lay, k4, by omega, by omega, by omega, G2, by omega, fun v a H7 dq k7 G7 dp => hR _ _ ⟨a, dq, k2.trans k7, G7, dp⟩⟩
  show tRet _ _ [some (V.ref g), some (.ref l), some (.ref t), some (.int (k : Nat)), some (.int (p : Nat)), some (.int r), none, some x] H5
  refine two_read (g := g) rfl G5 (by omega) fun b H6 k6' G6 => ⟨_, rfl, ?_⟩
  have k6 := k5.trans k6'
  have dpa6 := dq_keep G5 k6' a dpa
  refine ⟨.ref g, rfl, .ref l, rfl, .ref t, rfl, .int (k : Nat), rfl, .int (p : Nat), rfl, .int (p : Nat), rfl, _, _, rfl, rfl, ⟨by decide, by decide⟩, _, _, rfl, rfl, ?_⟩
  refine nil_read ?_
  show spPart K N [.ref g, .ref l, .ref t, .int (k : Nat), .int ((p : Int) - (p : Int) / 2)] H6 _ _
  rw [half, show ((p : Nat) : Int) - ((p / 2 : Nat) : Int) = ((p - p / 2 : Nat) : Int) by omega]
  refine ⟨g, l, t, m, c, ms, cs, ns, k, p - p / 2, n + 6 + costQ N, rfl, k6.seq nl Ll, k6.seq nm Lm, k6.seq nc Lc, k6 _ _ nt et, nl, nm, nc, nt, fm, fc, fn, lay, k4, by omega, by omega, by omega, by simpa only [show n + 3 + costQ N + 3 = n + 6 + costQ N by omega] using G6, by omega, fun v d H7 dq k7 G7 dp => ?_⟩
  refine nil_read ⟨by show 3 ≤ sizeLine; decide, fun p5 np5 => ?_⟩
  have s5 := same_new np5 (o := .tup [V.str (if b = true then "and" else "or"), x, v])
  exact q _ (.cn b a d) _ (.cn p2 da dq) ((k6.trans k7).trans (Keep.of_same s5)) ((G7.same s5).mono (by omega)) (.tup (SqT.of upd_same) (.cons (.str _) (.cons (dq_keep G6 (k7.trans (Keep.of_same s5)) a dpa6) (.cons (dq_keep G7 (Keep.of_same s5) d dp) .nil))))
end
end DQ

set_option Elab.async false
set_option linter.all false
set_option maxRecDepth 100000
set_option maxHeartbeats 1000000
namespace DQ
open PySem PySem.Spec PyProof.Rows L2
/-! ### _law_drawn_question -/
abbrev sQuest : Stmt := topS 38
abbrev PQu : List Str := ["generator", "marks", "columns", "names", "deep"]
theorem scQuest : FnScope PQu PQu (defScope sQuest) := ⟨rfl, rfl, rfl, by decide +kernel, rfl, by decide +kernel, by decide +kernel⟩
section
variable {P : Program} {w : World} {K : PySem.W.Frag} {mg : Str → Option Value} {base : Heap}
theorem ok_part {f fr fa : Addr} {fd fdr fda : FuncData} (F : Fun K "_law_drawn_part" "_law_drawn_part" sPart f fd) (GR : FnOk P w K mg base CX0 2 fr fdr ["generator", "bound"] spRandom) (bR : Binds K fdr ["generator", "bound"] []) (kR : PySem.W.keepIn K (.ref fr) = true) (mR : mg "_law_random" = some (.ref fr))
    (GA : FnOk P w K mg base CX0 4 fa fda ["generator", "marks", "columns", "names"] (spAtom K)) (bA : Binds K fda ["generator", "marks", "columns", "names"] []) (kA : PySem.W.keepIn K (.ref fa) = true) (mA : mg "_law_drawn_atom" = some (.ref fa))
    (bI : Binds K fd PPa []) (kI : PySem.W.keepIn K (.ref f) = true) (mI : mg "_law_drawn_part" = some (.ref f)) : ∀ N : Nat, FnOk P w K mg base CX0 (N + 5) f fd PPa (spPart K N)
  | 0 => part_none F
  | N + 1 => part_step F GR bR kR mR GA bA kA mA (ok_part F GR bR kR mR GA bA kA mA bI kI mI N) bI kI mI
/-- what is drawn: so many quantifiers deep at most, so much in the purse -/
def DrawnQ (ms cs ns : List Str) (k : Nat) (q : Qn) : Prop := ∃ p : Nat, 1 ≤ p ∧ p ≤ 12 ∧ (k = 4 → p ≤ 9) ∧ Dq ms cs ns k p q
def spQuest (K : PySem.W.Frag) : Sp := fun vs H Q _ => ∃ (g m c t : Addr) (ms cs ns : List Str) (k : Nat) (n : Int), vs = [.ref g, .ref m, .ref c, .ref t, .int (k : Nat)] ∧ SqL K H m (ms.map V.str) ∧ SqL K H c (cs.map V.str) ∧ SqL K H t (ns.map V.str) ∧ m ≠ g ∧ c ≠ g ∧ t ≠ g ∧
  ms.length ≤ 10 ∧ cs.length ≤ 10 ∧ ns.length + k ≤ 10 ∧ (∀ x, x ∈ ms ∨ x ∈ cs ∨ x ∈ ns → PyData.canLay0 (.str x) = true) ∧ k ≤ 4 ∧ Gen H g n ∧ n + 2000000 ≤ 1073741824 ∧
  ∀ v q H', DrawnQ ms cs ns k q → Keep g H H' → Gen H' g (n + 2000000) → Dp K H' v q.d → Q v H'
theorem ok_quest {f fr fp : Addr} {fd fdr fdp : FuncData} (F : Fun K "_law_drawn_question" "_law_drawn_question" sQuest f fd) (GR : FnOk P w K mg base CX0 2 fr fdr ["generator", "bound"] spRandom) (bR : Binds K fdr ["generator", "bound"] []) (kR : PySem.W.keepIn K (.ref fr) = true) (mR : mg "_law_random" = some (.ref fr))
    (GP : FnOk P w K mg base CX0 21 fp fdp PPa (spPart K 16)) (bP : Binds K fdp PPa []) (kP : PySem.W.keepIn K (.ref fp) = true) (mP : mg "_law_drawn_part" = some (.ref fp)) (mInt : mg "int" = none) (mList : mg "list" = none) : FnOk P w K mg base CX0 22 f fd PQu (spQuest K) := by
  refine F.ok scQuest (fun vs H Q E h => ?_) (fun cdv A outer s H vs Q E hr h => ?_)
  · obtain ⟨_, _, _, _, _, _, _, _, _, rfl, _⟩ := h
    rfl
  obtain ⟨g, m, c, t, ms, cs, ns, k, n, rfl, Lm, Lc, Lt, nm, nc, nt, fm, fc, fn, lay, k4, G, hn, q⟩ := h
  have nd := scQuest.nd
  refine ⟨_, pss_one (ps_ret (pe_call GP (hr.mono (by decide)) rfl mP kP bP .nil pass0 (pa_cons (pv 0) (pa_cons (pe_lst (pa_cons (pv 1) (pa_cons (pv 2) pa_nil))) (pa_cons (pe_callTy call_list_of (by rfl) mList (by decide +kernel) (pa_cons (pv 3) pa_nil)) (pa_cons (pv 4)
    (pa_cons (pe_op op_add pe_int (pe_call GR (hr.mono (by decide)) rfl mR kR bR .nil pass0 (pa_cons (pv 0) (pa_cons (pe_ix (r := rIxL K) ix_list (pe_lst (pa_cons pe_int (pa_cons pe_int pa_nil))) (pe_callTy call_int1 (by rfl) mInt (by decide +kernel) (pa_cons (pe_cmpR op_gt (pv 4) pe_int (nomark _)) pa_nil)) (fun _ _ => rfl)) pa_nil)))) pa_nil))))))), ?_⟩
  refine ⟨.ref g, rfl, .ref m, rfl, .ref c, rfl, by show 2 ≤ sizeLine; decide, fun p1 n1 => ⟨.ref t, rfl, t, _, rfl, .inl (L2.Same.seq (same_new n1) Lt), fun p2 n2 => ⟨.int (k : Nat), rfl, .ref g, rfl, by show 2 ≤ sizeLine; decide, fun p3 n3 => ⟨.int (k : Nat), rfl, _, _, rfl, rfl, .inr ⟨_, rfl, ?_⟩⟩⟩⟩⟩
  have s1 := same_new n1 (o := .lst [V.ref m, .ref c])
  have e1 : L2.upd H p1 (.lst [V.ref m, .ref c]) p1 = some (.lst [V.ref m, .ref c]) := upd_same
  have g1 := G.ne n1
  have G1 := G.same s1
  generalize L2.upd H p1 (.lst [V.ref m, .ref c]) = H1 at *
  have s2 := same_new n2 (o := .lst (ns.map V.str))
  have e2 : L2.upd H1 p2 (.lst (ns.map V.str)) p2 = some (.lst (ns.map V.str)) := upd_same
  have g2 := G1.ne n2
  have G2 := G1.same s2
  generalize L2.upd H1 p2 (.lst (ns.map V.str)) = H2 at *
  have s3 := same_new n3 (o := .lst [V.int 12, .int 9])
  have e3 : L2.upd H2 p3 (.lst [V.int 12, .int 9]) p3 = some (.lst [V.int 12, .int 9]) := upd_same
  have G3 := G2.same s3
  generalize L2.upd H2 p3 (.lst [V.int 12, .int 9]) = H3 at *
  have s13 := (s1.trans s2).trans s3
  have go : ∀ b : Int, 1 ≤ b → b ≤ 12 → (k = 4 → b ≤ 9) → ∀ {R : VK}, (∀ r H', 0 ≤ r → r < b → Gen H' g (n + 3) → But g H3 H' → R (.int r) H') → spRandom [.ref g, .int b] H3 R E0 := fun b b1 b2 _ R hR => ⟨g, b, n, rfl, G3, b1, by omega, by omega, hR⟩
  have fin : ∀ b : Int, b ≤ 12 → (k = 4 → b ≤ 9) → ∀ r H', 0 ≤ r → r < b → Gen H' g (n + 3) → But g H3 H' → spPart K 16 [.ref g, .ref p1, .ref p2, .int (k : Nat), .int (1 + r)] H' Q E0 := fun b b2 b9 r H4 r0 r1 G4 bt => by
    obtain ⟨j, rfl⟩ : ∃ j : Nat, r = (j : Int) := ⟨r.toNat, by omega⟩
    rw [show (1 + (j : Int)) = ((j + 1 : Nat) : Int) by omega]
    have kk := (Keep.of_same (g := g) s13).trans (Keep.of_but bt)
    have c16 : costQ 16 = 1966074 := by decide +kernel
    refine ⟨g, p1, p2, m, c, ms, cs, ns, k, j + 1, n + 3, rfl, SqL.of ((bt p1 g1).trans (s3 _ _ (s2 _ _ e1))), kk.seq nm Lm, kk.seq nc Lc, (bt p2 g2).trans (s3 _ _ e2), g1, nm, nc, g2, fm, fc, fn, lay, k4, by omega, by omega, by omega, G4, by rw [c16]; omega, fun v a H5 dq k5 G5 dp => ?_⟩
    rw [c16] at G5
    exact q v a H5 ⟨j + 1, by omega, by omega, fun e => by have := b9 e; omega, dq⟩ (kk.trans k5) (G5.mono (by omega)) dp
  have last : ∀ b : Int, 1 ≤ b → b ≤ 12 → (k = 4 → b ≤ 9) → ∀ i : Int, (if decide (3 < (k : Int)) = true then (1 : Int) else 0) = i → atI [V.int 12, V.int 9] i = some (.int b) → ∀ {R : VK}, (∀ r H', 0 ≤ r → r < b → Gen H' g (n + 3) → But g H3 H' → R (.int r) H') → rIxL K (.ref p3) (V.int (if decide (3 < (k : Int)) = true then 1 else 0)) H3 fun x H' => spRandom [.ref g, x] H' R E0 := fun b b1 b2 b9 i ei ea R hR => by
    rw [ei]
    exact ⟨p3, _, i, _, rfl, rfl, SqL.of e3, ea, go b b1 b2 b9 hR⟩
  show rIxL K (.ref p3) (V.int (if decide (3 < (k : Int)) = true then 1 else 0)) H3 fun x H1 => spRandom [.ref g, x] H1 (fun y H2 => ∃ i j, V.int 1 = .int i ∧ y = .int j ∧ spPart K 16 [.ref g, .ref p1, .ref p2, .int (k : Nat), .int (i + j)] H2 Q E0) E0
  by_cases z : 3 < (k : Int)
  · exact last 9 (by decide) (by decide) (fun _ => by decide) 1 (by rw [if_pos (decide_eq_true z)]) (atI_nat (j := 1) rfl) fun r H4 r0 r1 G4 bt => ⟨1, r, rfl, rfl, fin 9 (by decide) (fun _ => by decide) r H4 r0 r1 G4 bt⟩
  · exact last 12 (by decide) (by decide) (fun e => by omega) 0 (by rw [if_neg (by simpa using z)]) (atI_nat (j := 0) rfl) fun r H4 r0 r1 G4 bt => ⟨1, r, rfl, rfl, fin 12 (by decide) (fun e => by omega) r H4 r0 r1 G4 bt⟩
end
end DQ

set_option Elab.async false
set_option linter.all false
set_option maxRecDepth 100000
set_option maxHeartbeats 3200000
namespace DQ
open PySem PySem.Spec PyProof.Rows L2
/-! ### {text for x in it if ..} -/
section
variable {P : Program} {w : World} {A : Around} {E : Value → Shared → Prop} {s : Shared} {a : Addr}
theorem typeX {L : List Str} (M : SetX P w s.heap a L) : s.TypeIs (.ref a) "set" := by
  obtain ⟨⟨o, _, _, _, ho, hex, _⟩, _⟩ := M
  exact ⟨o, ho, hex.1⟩
/-- found.add(text) -/
theorem call_addX {L : List Str} (M : SetX P w s.heap a L) (x : Str) (tk : Tok) (room : L.length + 1 < scanBound) {Q : Value → Shared → Prop}
    (q : ∀ h', Heap.SameBut a s.heap h' → (x ∈ L → SetX P w h' a L) → (x ∉ L → SetX P w h' a (x :: L)) → Q .none { s with heap := h', toks := s.toks + 1 }) : wpAny (model P w) A (call (.builtin "set.add") [.ref a, .str x tk]) Q E s := by
  refine wpAny_call_entry F.slot_set_add (typeX M) F.entry_set_add ?_ (F.args_set_add_2 _ _)
  unfold Builtin.«set.add» Builtin.Frozenset.oneOther
  simp only [List.isEmpty_nil, bind_assoc]
  unfold Builtin.Frozenset.addrOf setAdd
  refine wpAny_bind (wpAny_pure ?_)
  try dsimp only
  refine wpAny_bind (wpAny_pure ?_)
  try dsimp only
  refine wpAny_bind (wpAny_holding (wpAny_bind ((PySem.strKind P w).pyHash (strKind_is P w x tk) ?_)))
  refine put_text (s := { s with toks := s.toks + 1 }) M x tk room fun b h' sb c1 c2 => ?_
  show wpAny _ _ (ret Value.none) _ _ _
  exact wpAny_pure ⟨_, rfl, q h' sb c1 c2⟩
end
/-- L, and the text behind what is there already -/
def withX (x : Str) (L : List Str) : List Str := if x ∈ L then L else x :: L
theorem once_with {L xs : List Str} {x : Str} (o : OnceX L xs) : OnceX (withX x L) (xs ++ [x]) := by
  unfold withX
  by_cases m : x ∈ L
  · rw [if_pos m]
    refine ⟨o.1, fun y => ?_⟩
    rw [o.2 y, List.mem_append, List.mem_singleton]
    exact ⟨.inl, fun z => z.elim id fun z => by rw [z]; exact (o.2 x).mp m⟩
  · rw [if_neg m]
    refine ⟨List.nodup_cons.mpr ⟨m, o.1⟩, fun y => ?_⟩
    rw [List.mem_cons, List.mem_append, List.mem_singleton, o.2 y]
    exact Or.comm
section
variable {X : Cx}
theorem add_text {pins : List (Addr × Obj)} {σ : L2.St} {H : Hp} {s : Shared} {D : Addr} {L : List Str} {x : Str} {u : Value} {Ex : Value → Shared → Prop} {Q : Value → Shared → Prop} (I : Inv X pins σ H s) (hD : H D = some (SetXO X.prog X.w D L)) (r : RelV (.str x) u) (room : L.length + 1 < scanBound)
    (q : ∀ s', Inv X pins σ (upd H D (SetXO X.prog X.w D (withX x L))) s' → Q .none s') : wpAny (model X.prog X.w) X.A (call (.builtin "set.add") [.ref D, u]) Q Ex s := by
  obtain ⟨tk, rfl⟩ := r
  have M : SetX X.prog X.w s.heap D L := (I.hok D _ hD).1
  refine call_addX M x tk room fun h' sb c1 c2 => q _ ?_
  have M2 : SetX X.prog X.w h' D (withX x L) := by
    unfold withX
    by_cases m : x ∈ L
    · rw [if_pos m]; exact c1 m
    · rw [if_neg m]; exact c2 m
  have he : ∃ o, h'.get? D = some o := let ⟨⟨o, _, _, _, ho, _⟩, _⟩ := M2; ⟨o, ho⟩
  exact d_write (t' := s.toks + 1) I (by rw [hD]; exact True.intro) sb he (setXO_new M2)
end
end DQ

namespace DQ
/-- one-to-one: no first twice, no second twice, all among the items -/
def OneToOne (ns : List Int) (ps : List (Int × Int)) : Prop := (ps.map (·.1)).Nodup ∧ (ps.map (·.2)).Nodup ∧ ∀ p ∈ ps, p.1 ∈ ns ∧ p.2 ∈ ns
theorem OneToOne.sub {ns : List Int} {ps qs : List (Int × Int)} (h : OneToOne ns qs) (s : ps.Sublist qs) : OneToOne ns ps :=
  ⟨(s.map (·.1)).nodup h.1, (s.map (·.2)).nodup h.2.1, fun p hp => h.2.2 p (s.subset hp)⟩
theorem zip_fst_sub : ∀ (l m : List Int), ((l.zip m).map (·.1)).Sublist l
  | [], m => by simp
  | x :: l, [] => by simp
  | x :: l, y :: m => by
    show (x :: (l.zip m).map (·.1)).Sublist (x :: l)
    exact (zip_fst_sub l m).cons₂ x
theorem zip_snd_sub : ∀ (l m : List Int), ((l.zip m).map (·.2)).Sublist m
  | [], m => by simp
  | x :: l, [] => by simp
  | x :: l, y :: m => by
    show (y :: (l.zip m).map (·.2)).Sublist (y :: m)
    exact (zip_snd_sub l m).cons₂ y
theorem oneToOne_zip {ns l m : List Int} (hl : l.Nodup) (hm : m.Nodup) (sl : ∀ x ∈ l, x ∈ ns) (sm : ∀ x ∈ m, x ∈ ns) : OneToOne ns (l.zip m) :=
  ⟨(zip_fst_sub l m).nodup hl, (zip_snd_sub l m).nodup hm, fun p hp => ⟨sl _ ((zip_fst_sub l m).subset (List.mem_map.mpr ⟨p, hp, rfl⟩)), sm _ ((zip_snd_sub l m).subset (List.mem_map.mpr ⟨p, hp, rfl⟩))⟩⟩
/-- no item twice, all of them in m -/
def Inj (l m : List Int) : Prop := l.Nodup ∧ ∀ x ∈ l, x ∈ m
theorem Inj.append {l1 l2 m1 m2 : List Int} (a : Inj l1 m1) (b : Inj l2 m2) (h : (m1 ++ m2).Nodup) : Inj (l1 ++ l2) (m1 ++ m2) := by
  refine ⟨List.nodup_append.mpr ⟨a.1, b.1, fun x hx y hy e => ?_⟩, fun x hx => ?_⟩
  · exact (List.nodup_append.mp h).2.2 x (a.2 x hx) y (b.2 y hy) e
  · rcases List.mem_append.mp hx with z | z
    · exact List.mem_append_left _ (a.2 x z)
    · exact List.mem_append_right _ (b.2 x z)
theorem ring_fst : ∀ (x : Int) (r : List Int), (((x :: r).zip r).map (·.1)) ++ [(x :: r).getLast (by simp)] = x :: r
  | x, [] => rfl
  | x, y :: r => by
    have ih := ring_fst y r
    show x :: ((((y :: r).zip r).map (·.1)) ++ [(x :: y :: r).getLast (by simp)]) = x :: y :: r
    rw [List.getLast_cons (by simp)]
    exact congrArg (x :: ·) ih
theorem ring_snd : ∀ (x : Int) (r : List Int), ((x :: r).zip r).map (·.2) = r
  | x, [] => rfl
  | x, y :: r => congrArg (y :: ·) (ring_snd y r)
/-- the links of one ring, open or closed -/
def ringOf (x : Int) (r : List Int) (closed : Bool) : List (Int × Int) := (x :: r).zip r ++ if closed = true then [((x :: r).getLast (by simp), x)] else []
theorem ring_inj {x : Int} {r : List Int} {closed : Bool} (h : (x :: r).Nodup) : Inj ((ringOf x r closed).map (·.1)) (x :: r) ∧ Inj ((ringOf x r closed).map (·.2)) (x :: r) := by
  unfold ringOf
  cases closed with
  | true =>
    rw [if_pos rfl, List.map_append, List.map_append]
    constructor
    · show Inj (((x :: r).zip r).map (·.1) ++ [(x :: r).getLast (by simp)]) (x :: r)
      rw [ring_fst]
      exact ⟨h, fun _ z => z⟩
    · show Inj (((x :: r).zip r).map (·.2) ++ [x]) (x :: r)
      rw [ring_snd]
      have pm : (r ++ [x]).Perm (x :: r) := List.perm_append_comm
      exact ⟨pm.nodup_iff.mpr h, fun y hy => pm.subset hy⟩
  | false =>
    rw [if_neg (by simp), List.append_nil]
    refine ⟨⟨(zip_fst_sub _ _).nodup h, fun y hy => (zip_fst_sub _ _).subset hy⟩, ?_⟩
    rw [ring_snd]
    exact ⟨(List.nodup_cons.mp h).2, fun y hy => List.mem_cons_of_mem _ hy⟩
theorem inj_oneToOne {ns ms : List Int} {ps : List (Int × Int)} (a : Inj (ps.map (·.1)) ms) (b : Inj (ps.map (·.2)) ms) (h : ∀ x ∈ ms, x ∈ ns) : OneToOne ns ps :=
  ⟨a.1, b.1, fun p hp => ⟨h _ (a.2 _ (List.mem_map.mpr ⟨p, hp, rfl⟩)), h _ (b.2 _ (List.mem_map.mpr ⟨p, hp, rfl⟩))⟩⟩
theorem zip_at {l m : List Int} {i : Nat} {a b : Int} (ha : l[i]? = some a) (hb : m[i]? = some b) : (l.zip m)[i]? = some (a, b) := by
  rw [List.getElem?_zip_eq_some]
  exact ⟨ha, hb⟩
theorem take_next {α : Type} {l : List α} {i : Nat} {x : α} (h : l[i]? = some x) : l.take (i + 1) = l.take i ++ [x] := by
  rw [List.take_add_one, h]
  rfl
theorem sub_skip {α : Type} {ps l : List α} {i : Nat} {x : α} (s : ps.Sublist (l.take i)) (h : l[i]? = some x) : ps.Sublist (l.take (i + 1)) := by
  rw [take_next h]
  exact s.trans (List.sublist_append_left _ _)
theorem sub_put {α : Type} {ps l : List α} {i : Nat} {x : α} (s : ps.Sublist (l.take i)) (h : l[i]? = some x) : (ps ++ [x]).Sublist (l.take (i + 1)) := by
  rw [take_next h]
  exact s.append (List.Sublist.refl _)
end DQ

set_option Elab.async false
set_option linter.all false
set_option maxRecDepth 100000
set_option maxHeartbeats 4000000
/-! ### len(set(texts)), a list of any length -/
namespace DQ
open PySem PySem.Spec PyProof.Rows L2
/-- how many differ among the first i -/
def differ (xs : List Str) : Nat → Nat
  | 0 => 0
  | i + 1 => if (xs.take i).any (· == xs.getD i Str.empty) = true then differ xs i else differ xs i + 1
theorem differ_le (xs : List Str) : ∀ i, differ xs i ≤ i
  | 0 => Nat.le_refl _
  | i + 1 => by
    have := differ_le xs i
    unfold differ
    split <;> omega
theorem differ_nodup {xs : List Str} (nd : xs.Nodup) : ∀ i, i ≤ xs.length → differ xs i = i
  | 0, _ => rfl
  | i + 1, h => by
    have e : xs[i]? = some (xs.getD i Str.empty) := by
      rw [List.getD_eq_getElem?_getD, List.getElem?_eq_getElem (by omega)]
      rfl
    have no : ¬ (xs.take i).any (· == xs.getD i Str.empty) = true := fun q => by
      obtain ⟨y, hy, ey⟩ := List.any_eq_true.mp q
      have z : (xs.take i ++ [xs.getD i Str.empty]).Nodup := by
        rw [← take_next e]
        exact (List.take_sublist _ _).nodup nd
      exact (List.nodup_append.mp z).2.2 y hy _ (List.mem_singleton.mpr rfl) (eq_of_beq ey)
    unfold differ
    rw [if_neg no, differ_nodup nd i (by omega)]
theorem any_next {xs : List Str} {i : Nat} (h : i < xs.length) (k : Str) : ((xs.take i).any (· == k) || decide (k = xs.getD i Str.empty)) = (xs.take (i + 1)).any (· == k) := by
  have e : xs[i]? = some (xs.getD i Str.empty) := by
    rw [List.getD_eq_getElem?_getD, List.getElem?_eq_getElem h]
    rfl
  rw [take_next e, List.any_append]
  congr 1
  show decide (k = xs.getD i Str.empty) = ((xs.getD i Str.empty == k) || false)
  rw [Bool.or_false]
  by_cases q : k = xs.getD i Str.empty
  · rw [← q]; simp
  · rw [decide_eq_false q]
    exact (beq_eq_false_iff_ne.mpr fun z => q z.symm).symm
section
variable {prog : Program} {w : World} {A : Around} {R : Result → Shared → Prop} {I : Addr} {fp wr : List Addr} {G : Array GenState → Array GenState → Prop} {n : Nat} {P : Nat → Value → Prop} {St : Nat → Shared → Prop}
theorem texts_in (W : WalksS prog w A.in1 I fp wr G n P St) {S : Addr} (out : S ∉ fp) {xs : List Str} (len : xs.length = n) (few : n + 1 < scanBound) (val : ∀ i v, P i v → ∃ t, v = .str (xs.getD i Str.empty) t) :
    ∀ (k i : Nat) (s : Shared), n - i = k → i ≤ n → St i s → s.heap.SetOf (PySem.strKind prog w) S (fun z => (xs.take i).any (· == z)) (differ xs i) →
      (∀ s', Moved (S :: wr) G s s' → s'.heap.SetOf (PySem.strKind prog w) S (fun z => (xs.take n).any (· == z)) (differ xs n) → R (.ok (.ret .none)) s') →
      codeAny (model prog w) A (.builtin "set.update.loop" ⟨[.ref S, .ref I], []⟩) R s := by
  have outw : S ∉ wr := fun h => out (W.sub _ h)
  have more : ∀ b ∈ wr, b ∈ S :: wr := fun b h => List.mem_cons_of_mem _ h
  have kept : ∀ {s s' : Shared} {T : Str → Bool} {c : Nat}, Moved wr G s s' → s.heap.SetOf (PySem.strKind prog w) S T c → s'.heap.SetOf (PySem.strKind prog w) S T c := fun m ⟨o, es, ep, t, ho, r⟩ => ⟨o, es, ep, t, m.heap S _ outw ho, r⟩
  intro k
  induction k with
  | zero =>
    intro i s hk hi st hS done
    obtain rfl : i = n := by omega
    refine codeAny_builtin PyProof.Rows.F.entry_set_update_loop ?_
    rw [Around.under_plainId PyProof.Rows.F.plain_set_update_loop _]
    show wpAny _ A.in1 (pyNext (.ref I) >>= _) _ _ s
    refine wpAny_bind (W.done s _ _ st fun s' m => ?_)
    show wpAny _ A.in1 (ret Value.none) _ _ s'
    exact wpAny_pure (done s' (m.mono more) (kept m hS))
  | succ k ih =>
    intro i s hk hi st hS done
    have lt : i < n := by omega
    refine codeAny_builtin PyProof.Rows.F.entry_set_update_loop ?_
    rw [Around.under_plainId PyProof.Rows.F.plain_set_update_loop _]
    show wpAny _ A.in1 (pyNext (.ref I) >>= _) _ _ s
    refine wpAny_bind (W.item i s _ _ lt st fun v s' hP st' m => ?_)
    obtain ⟨t, rfl⟩ := val i v hP
    have hS1 := kept m hS
    show wpAny _ A.in1 (holding [Value.str (xs.getD i Str.empty) t] (setAdd S (.str (xs.getD i Str.empty) t)) >>= _) _ _ s'
    refine wpAny_bind (wpAny_holding ?_)
    unfold setAdd
    refine wpAny_holding (wpAny_bind ((PySem.strKind prog w).pyHash (k := xs.getD i Str.empty) (strKind_is _ _ _ _) ?_))
    refine wpAny_setAddHashed_of (knd := PySem.strKind prog w) (s := { s' with toks := s'.toks + 1 }) (strKind_is _ _ _ _) rfl hS1 (by have := differ_le xs i; omega) fun h' same hS2 => ?_
    refine wpAny_pure ⟨plainId_quiet PyProof.Rows.F.plain_set_update_loop _, ih (i + 1) _ (by omega) lt (W.frame _ s' _ _ st' (Nat.le_succ _) fun b hb o e => ?_) (SetOf_congr hS2 (fun z => any_next (by omega) z) rfl) fun s'' m2 hS3 => ?_⟩
    · rw [same.2 b fun z : b = S => out (by rw [← z]; exact hb)]
      exact e
    · refine done s'' (Moved.trans W.gtrans ((m.mono more).then_heap (Nat.le_succ _) fun b o hb e => ?_) m2) hS3
      rw [same.2 b fun z : b = S => hb (by rw [z]; exact List.mem_cons_self)]
      exact e
end
section
variable {prog : Program} {w : World} {A : Around} {E : Value → Shared → Prop} {s : Shared}
theorem set_of_texts {l : Addr} {items : Array Value} {xs : List Str} {Q : Value → Shared → Prop} (hh : A.handled = none) (hl : s.heap.IsList l items) (hi : StrsAre items.toList xs) (few : items.size + 1 < scanBound)
    (done : ∀ (h' : Heap) (tk : Nat), h'.SetOf (PySem.strKind prog w) s.heap.objs.size (fun z => (xs.take items.size).any (· == z)) (differ xs items.size) →
      (∀ b o, b < s.heap.objs.size → s.heap.get? b = some o → h'.get? b = some o) → Q (.ref s.heap.objs.size) { s with heap := h', toks := tk }) :
    wpAny (model prog w) A (call (.type "set") [.ref l]) Q E s := by
  obtain ⟨c, tl, hmro⟩ := PySem.F.called_set.mro
  have made := PySem.F.called_set.made
  have sub := PySem.F.called_set.sub
  refine wpAny_call (codeAny_of_tree ?_)
  show wpAny _ _ (callAny (.type "set") _) _ _ _
  refine wpAny_pure ⟨Code.quiet_builtin _ (by decide +kernel), codeAny_builtin PySem.F.entry_type_call ?_⟩
  rw [Around.under_plain (weight_type_call_type "set" [.ref l] []) rfl]
  have h1 := PySem.F.called_set.notType
  have h2 := PySem.F.called_set.canCreate
  have h3 := PySem.F.typeCall_set_1 (.ref l)
  repeat (any_goals (first | assumption | wp_step))
  refine codeAny_mono (code_set_new_1 (.ref l) (E := E) (Q₁ := fun o s1 => ∃ led : Bool, o = .ref s.heap.objs.size ∧ s1 = { s with heap := s.heap.push { cls := .type "set", dict := none, data := .set #[] 0 (.fresh 0 0 led) } }) fun led => ⟨led, rfl, rfl⟩) fun r s1 hr => ?_
  cases r with
  | error e => exact hr
  | ok fl =>
    cases fl with
    | ret o =>
      obtain ⟨led, rfl, rfl⟩ := hr
      have hS : (s.heap.push { cls := .type "set", dict := none, data := .set #[] 0 (.fresh 0 0 led) }).get? s.heap.objs.size = some { cls := .type "set", dict := none, data := .set #[] 0 (.fresh 0 0 led) } := Heap.get?_push_size _ rfl
      have hT : Shared.TypeIs { s with heap := s.heap.push { cls := .type "set", dict := none, data := .set #[] 0 (.fresh 0 0 led) } } (.ref s.heap.objs.size) "set" := ⟨_, hS, rfl⟩
      have i1 := PySem.F.called_set.init.lookup
      have i2 := PySem.F.called_set.init.bind (.ref s.heap.objs.size)
      repeat (any_goals (first | assumption | wp_step))
      refine codeAny_mono (codeAny_call_builtin (R := wants (fun r s2 => r = .none ∧ ∃ h' tk, s2 = { s with heap := h', toks := tk } ∧ h'.SetOf (PySem.strKind prog w) s.heap.objs.size (fun z => (xs.take items.size).any (· == z)) (differ xs items.size) ∧
          (∀ b o, b < s.heap.objs.size → s.heap.get? b = some o → h'.get? b = some o)) E) PySem.F.called_set.init.plain PySem.F.entry_set_init (check_set_init_1 hT ?_)) fun r s2 hr => ?_
      · obtain ⟨⟨cls, dd, dt, sl⟩, ho, hc, nl, hd⟩ := hl
        simp only at hc hd
        subst hc hd
        have ho1 : (s.heap.push { cls := .type "set", dict := none, data := .set #[] 0 (.fresh 0 0 led) }).get? l = some { cls := .type "list", dict := dd, data := .seq items nl, slots := sl } := Heap.get?_push_of_some _ ho
        have l1 : (s.heap.push { cls := .type "set", dict := none, data := .set #[] 0 (.fresh 0 0 led) }).IsList l items := ⟨_, ho1, rfl, nl, rfl⟩
        have n1 := PySem.F.sub_list_set
        have n2 := PySem.F.sub_list_frozenset
        have n3 : (Value.type "list" == Value.type "dict") = false := by decide
        unfold Builtin.«set.__init__» noKeywords Builtin.Frozenset.updateFrom
        generalize hit : pyIter = it
        wp_walk
        subst hit
        refine wpAny_pyIter_list l1 (wpAny_bind (wpAny_runValue ?_))
        have hlt : l < s.heap.objs.size := Heap.lt_size ho
        have sz := Heap.size_push s.heap { cls := .type "set", dict := none, data := .set #[] 0 (.fresh 0 0 led) }
        have n4 : l ≠ (s.heap.push { cls := .type "set", dict := none, data := .set #[] 0 (.fresh 0 0 led) }).objs.size := by
          rw [sz]
          exact Nat.ne_of_lt (Nat.lt_succ_of_lt hlt)
        have n5 : s.heap.objs.size ∉ [(s.heap.push { cls := .type "set", dict := none, data := .set #[] 0 (.fresh 0 0 led) }).objs.size, l] := fun q => by
          rw [sz] at q
          rcases List.mem_cons.mp q with e | q
          · exact absurd e (Nat.ne_of_lt (Nat.lt_succ_self _))
          · exact absurd (List.mem_singleton.mp q) (Nat.ne_of_gt hlt)
        have val : ∀ (i : Nat) (v : Value), items[i]? = some v → ∃ t, v = .str (xs.getD i Str.empty) t := fun i v hv => SS.strs_at hi i v (by rw [Array.getElem?_toList]; exact hv)
        refine texts_in ((Walks.list (by simp [hh]) _ l n4 items).toS) n5 (by rw [← StrsAre.len_eq hi, Array.length_toList]) few val items.size 0 _ (Nat.sub_zero _) (Nat.zero_le _) ⟨⟨_, Heap.get?_push_size _ rfl, rfl, rfl⟩, l1.push _⟩ ?_ ?_
        · exact SetOf_congr ((setObjOf_fresh (knd := PySem.strKind prog w) led).setOf (Heap.get?_push_of_some _ hS) (by unfold scanBound; omega)) (fun _ => rfl) rfl
        · intro s' m hS'
          obtain ⟨h', g', d', tk', os'⟩ := s'
          obtain rfl : g' = s.gens := m.gens
          obtain rfl : d' = s.drawn := m.drawn
          obtain rfl : os' = s.os := m.os
          show wpAny _ _ _ _ _ _
          refine wpAny_pure ?_
          show wpAny _ _ (ret Value.none) _ _ _
          refine wpAny_pure ⟨rfl, h', tk', rfl, hS', fun b o hb e => m.heap b o (fun q => ?_) (Heap.get?_push_of_some _ (Heap.get?_push_of_some _ e))⟩
          rw [sz] at q
          rcases List.mem_cons.mp q with e | q
          · exact absurd e (Nat.ne_of_lt hb)
          · exact absurd (List.mem_singleton.mp q) (Nat.ne_of_lt (Nat.lt_succ_of_lt hb))
      · cases r with
        | error e => exact hr
        | ok fl2 =>
          cases fl2 with
          | ret r =>
            obtain ⟨rfl, h', tk, rfl, hS', k⟩ := hr
            repeat (any_goals (first | assumption | wp_step))
            exact done _ _ hS' k
          | _ => exact hr.elim
    | _ => exact hr.elim
end
section
variable {X : Cx}
/-- len(set(xs)), xs a list of texts -/
def tLenSetT (K : PySem.W.Frag) (ta : TE) : TE := fun σ H Q => ta σ H fun x H1 => ∃ (l : Addr) (xs : List Str), x = .ref l ∧ SqL K H1 l (xs.map V.str) ∧ xs.length ≤ 1000 ∧ Q (.int (differ xs xs.length : Nat)) H1
theorem pe_lenSetT {a : Expr} {ta : TE} {p p2 q pos : Pos} (hc : X.calm = true) (hg : Gl X "len") (hm : X.mg "len" = none) (hg2 : Gl X "set") (hm2 : X.mg "set" = none) (ha : PE X a ta)
    (na : starEach [a] X.env = (false, eval a X.env) :: starEach [] X.env := by rfl) : PE X (.Call (.Name "len" p) [.Call (.Name "set" p2) [a] [] q] [] pos) (tLenSetT X.K ta) := by
  refine ⟨fun pins s σ H Q I h => ?_⟩
  refine Call_ (ld_blt I hg hm boot_len ?_)
  refine callWith_builtin1 (args_cons ?_ rfl) rfl rfl
  refine Call_ (ld_blt I hg2 hm2 boot_set ?_)
  refine callWith_type1 (args_cons (thn (ha.run pins s σ H _ I h) fun v s1 ⟨x, H1, I1, r1, q1⟩ => args_nil ?_) na) na rfl
  obtain ⟨l, xs, rfl, hq, h1, q1⟩ := q1
  cases r1
  obtain ⟨its, r, pl, hz⟩ := I1.list hq
  have hl : its.toArray.size = xs.length := by rw [List.size_toArray, ← r.length, List.length_map]
  refine set_of_texts (I1.ok.hd hc) pl.isList (by simpa using strsAre_of r) (by unfold scanBound; omega) fun h' tk hS hk => args_nil ?_
  rw [hl] at hS
  obtain ⟨o, es, ep, t, ho, hex, hd, _, _, _, hf, hn⟩ := hS
  have I2 : Inv X pins σ H1 { s1 with heap := h', toks := tk } := I1.kept fun b o e => hk b o (Heap.lt_size e) e
  have dl := differ_le xs xs.length
  exact call_len_set ho hex hd hf (by rw [hn] <;> omega) ⟨.int (differ xs xs.length : Nat), H1, I2.tok _, ⟨_, by rw [hn]⟩, q1⟩
end
end DQ

set_option Elab.async false
set_option linter.all false
set_option maxRecDepth 100000
set_option maxHeartbeats 4000000
namespace DQ
open PySem PySem.Spec PyProof.Rows L2
/-! ### a comprehension whose items are flags, without an if -/
theorem same_upd {H H' : Hp} {D : Addr} {o : HO} (s : Same H H') (nD : H D = none) : Same H (upd H' D o) := fun b u e => by
  rw [upd_ne (ne_of_none e nD)]
  exact s b u e
theorem yes_if {A B : Prop} (h : A) : if (true : Bool) = true then A else B := (if_pos rfl : (if (true : Bool) = true then A else B) = A).mpr h
theorem lc_bools {J : It} {n : Nat} {G : Hp → Prop} {Y : Nat → Hp → V → Hp → Prop} (w : Walk J n G Y) {g : TG} {te : TE} {vs : List Nat} {σ : L2.St} {H1 : Hp} {D : Addr} {Qd : Hp → Prop} (bs : List Bool) (hn : bs.length = n) (few : n < sizeLine) (nD : H1 D = none)
    (hG : ∀ H, Same H1 H → G H) (hY : ∀ i H x H', Y i H x H' → Same H H')
    (hs : ∀ i x H H' b, i < n → bs[i]? = some b → Same H1 H → Y i H x H' → ∀ R : V → Hp → Prop, (∀ H4, Same H' H4 → R (.bl b) H4) → g x (wipe σ vs) H' fun σ2 H2 => wipe σ2 vs = wipe σ vs ∧ te σ2 H2 R)
    (hd : ∀ H, Same H1 H → H D = some (.lst (bs.map V.bl)) → Qd H) (gm : ∀ x σ H (Q Q' : L2.St → Hp → Prop), (∀ σ H, Q σ H → Q' σ H) → g x σ H Q → g x σ H Q') :
    ∃ W : Nat → Nat → Hp → Prop, (∃ m, W 0 m (upd H1 D (.lst []))) ∧ ∀ i m H, W i m H →
      (J.stop i H ∧ Qd H) ∨ (J.go i H ∧ ∃ Nx : Hp → Prop, (∀ H', Nx H' → ∃ m', m' < m ∧ W (i + 1) m' H') ∧ ∀ x H', J.yld i H x H' → g x (wipe σ vs) H' fun σ2 H2 => wipe σ2 vs = wipe σ vs ∧ tYes σ2 H2 fun b H3 =>
        if b = true then te σ2 H3 fun y H4 => ∃ acc, H4 D = some (.lst acc) ∧ acc.length < sizeLine ∧ Nx (upd H4 D (.lst (acc ++ [y]))) else Nx H3) := by
  refine lc_it w (fun i H => H D = some (.lst ((bs.take i).map V.bl)) ∧ Same H1 H) ⟨upd_same, same_new nD⟩ (fun i H _ p => hG H p.2) (fun i x H H' hi p y => ?_) fun H p => hd H p.2 (by rw [← hn, List.take_length] at p; exact p.1)
  obtain ⟨e, s⟩ := p
  have hb : bs[i]? = some bs[i] := List.getElem?_eq_getElem (by omega)
  refine (fun z => gm x _ _ _ _ (fun σ2 H2 z => ⟨z.1, z.2⟩) z) (hs i x H H' _ hi hb s y (fun y H4 => ∃ acc, H4 D = some (.lst acc) ∧ acc.length < sizeLine ∧ upd H4 D (.lst (acc ++ [y])) D = some (.lst ((bs.take (i + 1)).map V.bl)) ∧ Same H1 (upd H4 D (.lst (acc ++ [y])))) fun H4 s4 => ?_)
  have e4 := s4 _ _ (hY _ _ _ _ y _ _ e)
  refine ⟨_, e4, ?_, ?_, ?_⟩
  · rw [List.length_map, List.length_take]
    omega
  · rw [take_next hb, List.map_append]
    exact upd_same
  · exact same_upd ((s.trans (hY _ _ _ _ y)).trans s4) nD
end DQ

set_option Elab.async false
set_option linter.all false
set_option maxRecDepth 100000
set_option maxHeartbeats 4000000
namespace DQ
open PySem PySem.Spec PyProof.Rows L2
abbrev sIsWord : Stmt := topS 8
abbrev sSpelled : Stmt := topS 9
def letters : Str := "abcdefghijklmnopqrstuvwxyz"
def wordSigns : Str := "abcdefghijklmnopqrstuvwxyz0123456789"
def reserved : List Str := ["all", "and", "false", "in", "link", "mark", "not", "or", "same", "some", "true"]
/-- a text of 1 to 30 signs that are small letters or digits, the first a letter -/
def spelled (x : Str) : Bool := decide (1 ≤ x.length) && decide (x.length ≤ 30) && (x.cps.toList.head?.any fun c => decide (c ∈ letters.cps.toList)) && x.cps.toList.all fun c => decide (c ∈ wordSigns.cps.toList)
def wordB (x : Str) : Bool := spelled x && !inV (.str x) (reserved.map V.str)
theorem scIsWord : FnScope ["value"] ["value"] (defScope sIsWord) := ⟨rfl, rfl, rfl, by decide +kernel, rfl, by decide +kernel, by decide +kernel⟩
theorem scSpelled : FnScope ["text", "sign"] ["text"] (defScope sSpelled) := ⟨rfl, rfl, rfl, by decide +kernel, rfl, by decide +kernel, by decide +kernel⟩
section
variable {P : Program} {w : World} {K : PySem.W.Frag} {mg : Str → Option Value} {base : Heap}
def spSpelled : Sp := fun vs H Q _ => ∃ x : Str, vs = [.str x] ∧ x.length ≤ 1000 ∧ ∀ H', Same H H' → Q (.bl (spelled x)) H'
theorem ok_spelled {f : Addr} {fd : FuncData} {t1 t2 t3 : Tok} (F : Fun K "is_spelled" "is_spelled" sSpelled f fd) (mL : mg "LETTERS" = some (.str letters t1)) (mW : mg "WORD_SIGNS" = some (.str wordSigns t2)) (mM : mg "MOST_SIGNS" = some (.int 30 t3))
    (mLen : mg "len" = none) (mAll : mg "all" = none) : FnOk P w K mg base CX0 1 f fd ["text"] spSpelled := by
  refine F.ok scSpelled (fun vs H Q E h => ?_) (fun cdv A outer s H vs Q E hr h => ?_)
  · obtain ⟨x, rfl, _⟩ := h
    rfl
  obtain ⟨x, rfl, few, q⟩ := h
  have nd := scSpelled.nd
  refine ⟨_, (pss_cons (ps_if (PW.pt (pw_or (pt_not (pt_chain op_le op_le pe_int (pe_callB call_len_str (by rfl) mLen PySem.boot_len (pa_cons (pv 0) pa_nil)) (pe_glob (v := .int 30) (by rfl) mM ⟨_, rfl⟩))) (pw_or1 (pt_cmpR op_notIn_sign (pe_ix (r := rIxS) ix_str (pv 0) pe_int (fun _ _ => rfl)) (pe_glob (v := .str letters) (by rfl) mL ⟨_, rfl⟩) (by rfl))))) (pss_one (ps_ret pe_bl)) pss_nil)
    (pss_one (ps_ret (pe_callB (cr_all rfl) (by rfl) mAll (by decide +kernel) (pa_cons (pe_lc (own := [("sign", 1)]) (g := gName 1) (tt := tYes) rfl nd (pi_str (pv 0)) (blkOk_by (own := [("sign", 1)]) (N := ["text", "sign"]) (sc := defScope sSpelled) (by decide +kernel)) (fun _ _ _ _ _ => pg_name (i := 1) nd rfl (Or.inl rfl)) (fun _ _ _ _ _ => pts_nil) (fun _ _ _ _ _ => pe_cmpR op_in_sign (pv 1) (pe_glob (v := .str wordSigns) (by rfl) mW ⟨_, rfl⟩) (by rfl))) pa_nil))))), ?_⟩
  have end0 : spelled x = false → Q (.bl false) H := fun e => by
    have := q H (fun _ _ h => h)
    rwa [e] at this
  refine ⟨_, rfl, x, rfl, Nat.le_trans few (by decide), _, _, rfl, rfl, _, rfl, ite2 (fun c1 => ⟨_, _, rfl, rfl, _, rfl, ite2 (fun c2 => ?_) fun c2 => ?_⟩) fun c1 => ⟨_, rfl, ?_⟩⟩
  · -- too long
    refine end0 ?_
    have z : ¬ x.length ≤ 30 := fun z => by
      rw [decide_eq_true (show (x.length : Int) ≤ 30 by omega)] at c2
      exact absurd c2 (by decide)
    unfold spelled
    rw [decide_eq_false z, Bool.and_false, Bool.false_and, Bool.false_and]
  · have l1 : 1 ≤ x.length := by
      have := of_decide_eq_true c1
      omega
    have l2 : x.length ≤ 30 := by
      by_cases z : (x.length : Int) ≤ 30
      · omega
      · rw [decide_eq_false z] at c2
        exact absurd rfl c2
    obtain ⟨c, r, hx⟩ : ∃ c r, x.cps.toList = c :: r := by
      cases e : x.cps.toList with
      | nil =>
        have : x.length = 0 := by
          show x.cps.size = 0
          rw [← Array.length_toList, e]
          rfl
        omega
      | cons c r => exact ⟨c, r, rfl⟩
    have sp : spelled x = (decide (c ∈ letters.cps.toList) && x.cps.toList.all fun c => decide (c ∈ wordSigns.cps.toList)) := by
      unfold spelled
      rw [decide_eq_true l1, decide_eq_true l2, hx]
      rfl
    refine ⟨_, rfl, x, 0, c, rfl, rfl, Nat.le_trans few (by decide), by rw [hx]; exact atI_nat (j := 0) rfl, c, letters, rfl, rfl, _, rfl, ite2 (fun c3 => ?_) fun c3 => ?_⟩
    · refine end0 ?_
      rw [sp]
      cases h : decide (c ∈ letters.cps.toList) with
      | true =>
        rw [h] at c3
        exact absurd c3 (by decide)
      | false => rfl
    · have h : decide (c ∈ letters.cps.toList) = true := by
        cases h : decide (c ∈ letters.cps.toList) with
        | true => rfl
        | false =>
          rw [h] at c3
          exact absurd rfl c3
      rw [h, Bool.true_and] at sp
      refine ⟨_, rfl, x, rfl, fun D nD => lc_bools (walk_str (z := x)) (x.cps.toList.map fun c => decide (c ∈ wordSigns.cps.toList)) (by rw [List.length_map, Array.length_toList]) (Nat.lt_of_le_of_lt (show x.cps.size ≤ 1000 from few) (by decide)) nD (fun _ _ => trivial) (fun _ _ _ _ y => by rw [y.1]; exact fun _ _ h => h)
        (fun i v H2 H3 b hi hb s1 y R hR => ?_) (fun H2 s2 e2 => ?_) (fun _ _ _ _ _ m h => m _ _ h)⟩
      · obtain ⟨rfl, d, hd, rfl⟩ := y
        rw [List.getElem?_map, Array.getElem?_toList, hd] at hb
        cases hb
        exact ⟨rfl, _, rfl, d, wordSigns, rfl, rfl, hR _ fun _ _ h => h⟩
      · refine ⟨D, _, rfl, SqL.of e2, ?_⟩
        have e : (List.map (fun c => decide (c ∈ wordSigns.cps.toList)) x.cps.toList).any id = true ∨ True := .inr trivial
        rw [List.all_map]
        have := q H2 s2
        rw [sp] at this
        exact this
  · -- empty
    refine end0 ?_
    have z : ¬ 1 ≤ x.length := fun z => c1 (decide_eq_true (by omega))
    unfold spelled
    rw [decide_eq_false z]
    rfl
def spIsWord (K : PySem.W.Frag) : Sp := fun vs H Q _ => ∃ v, vs = [v] ∧ ((∃ x : Str, v = .str x ∧ x.length ≤ 1000 ∧ ∀ H', Same H H' → Q (.bl (wordB x)) H') ∨ ((∃ t, TyX K H v t ∧ PySem.W.kitOne K t (.type "str") = some false) ∧ Q (.bl false) H))
theorem ok_isWord {f fs r : Addr} {fd fds : FuncData} (F : Fun K "is_word" "is_word" sIsWord f fd) (GS : FnOk P w K mg base CX0 1 fs fds ["text"] spSpelled) (bS : Binds K fds ["text"] []) (kS : PySem.W.keepIn K (.ref fs) = true) (mS : mg "is_spelled" = some (.ref fs))
    (mI : mg "isinstance" = none) (mStr : mg "str" = none) (mR : mg "RESERVED" = some (.ref r)) (eR : ∀ H, SqT K H r (reserved.map V.str)) : FnOk P w K mg base CX0 2 f fd ["value"] (spIsWord K) := by
  refine F.ok scIsWord (fun vs H Q E h => ?_) (fun cdv A outer s H vs Q E hr h => ?_)
  · obtain ⟨x, rfl, _⟩ := h
    rfl
  obtain ⟨v, rfl, h⟩ := h
  refine ⟨_, pss_one (ps_ret (pe_and (pe_callB call_isi (by rfl) mI (by decide +kernel) (pa_cons (pv 0) (pa_cons (pe_bltn (v := .ty "str") (by rfl) mStr (by decide +kernel) rfl) pa_nil))) (pe_and (pe_call GS (hr.mono (by decide)) rfl mS kS bS .nil pass0 (pa_cons (pv 0) pa_nil)) (pe_one (pe_cmpR op_notIn_seq (pv 0) (pe_glob (v := .ref r) (by rfl) mR rfl) (by rfl)))))), ?_⟩
  rcases h with ⟨x, rfl, few, q⟩ | ⟨⟨t, ty, kt⟩, q⟩
  · refine ⟨_, rfl, .str x, .ty "str", _, _, true, rfl, .ty "str", .base (.str x), kit_ty (by decide +kernel), true, rfl, ?_⟩
    refine ⟨_, rfl, x, rfl, few, fun H' sm => ⟨_, rfl, ite2 (fun c => ?_) fun c => ?_⟩⟩
    · refine ⟨_, rfl, r, _, rfl, .inr (eR _), rfl, ?_, ?_⟩
      · decide
      · have := q H' sm
        unfold wordB at this
        rw [c, Bool.true_and] at this
        exact this
    · have := q H' sm
      unfold wordB at this
      rw [Bool.eq_false_iff.mpr c, Bool.false_and] at this
      exact this
  · exact ⟨_, rfl, v, .ty "str", _, _, false, rfl, .ty "str", ty, kt, false, rfl, q⟩
end
end DQ

set_option Elab.async false
set_option linter.all false
set_option maxRecDepth 100000
set_option maxHeartbeats 4000000
namespace DQ
open PySem PySem.Spec PyProof.Rows L2
/-! ### data on the heap -/
theorem Same.seqT {K : PySem.W.Frag} {H H' : Hp} {a : Addr} {xs : List V} (e : Same H H') (h : SqT K H a xs) : SqT K H' a xs := by
  rcases h with (h | ⟨o, h⟩) | h
  · exact .inl (.inl (e _ _ h))
  · exact .inl (.inr ⟨o, e _ _ h⟩)
  · exact .inr h
mutual
theorem dp_same {K : PySem.W.Frag} {H H' : Hp} (e : Same H H') : ∀ (d : PyData) (v : V), Dp K H v d → Dp K H' v d
  | .none, _, h => by cases h; exact .non
  | .bool b, _, h => by cases h; exact .bl b
  | .int i, _, h => by cases h; exact .int i
  | .str x, _, h => by cases h; exact .str x
  | .list ds, _, h => by
    cases h with
    | lst h a => exact .lst (L2.Same.seq e h) (dpAll_same e ds _ a)
  | .tuple ds, _, h => by
    cases h with
    | tup h a => exact .tup (DQ.Same.seqT e h) (dpAll_same e ds _ a)
  | .dict _, _, h => by
    cases h with
    | dct h => exact .dct (e _ _ h)
theorem dpAll_same {K : PySem.W.Frag} {H H' : Hp} (e : Same H H') : ∀ (ds : List PyData) (vs : List V), DpAll K H vs ds → DpAll K H' vs ds
  | [], _, h => by cases h; exact .nil
  | d :: ds, _, h => by
    cases h with
    | cons a b => exact .cons (dp_same e d _ a) (dpAll_same e ds _ b)
end
theorem dpAll_len {K : PySem.W.Frag} {H : Hp} : ∀ {vs : List V} {ds : List PyData}, DpAll K H vs ds → vs.length = ds.length
  | _, _, .nil => rfl
  | _, _, .cons _ t => congrArg Nat.succ (dpAll_len t)
theorem dpAll_at {K : PySem.W.Frag} {H : Hp} : ∀ {vs : List V} {ds : List PyData} {i : Nat} {v : V}, DpAll K H vs ds → vs[i]? = some v → ∃ d, ds[i]? = some d ∧ Dp K H v d
  | _, _, _, _, .nil, h => by simp at h
  | _, _, 0, _, .cons a _, h => by
    cases h
    exact ⟨_, rfl, a⟩
  | _, _, i + 1, _, .cons _ t, h => dpAll_at (i := i) t (by simpa using h)
theorem dpAll_get {K : PySem.W.Frag} {H : Hp} {vs : List V} {ds : List PyData} {i : Nat} {v : V} {d : PyData} (a : DpAll K H vs ds) (h : vs[i]? = some v) (hd : ds[i]? = some d) : Dp K H v d := by
  obtain ⟨e, he, q⟩ := dpAll_at a h
  rw [hd] at he
  cases he
  exact q
/-- the name of its type -/
def tyN : PyData → String
  | .none => "NoneType"
  | .bool _ => "bool"
  | .int _ => "int"
  | .str _ => "str"
  | .list _ => "list"
  | .tuple _ => "tuple"
  | .dict _ => "dict"
theorem dp_ty {K : PySem.W.Frag} {H : Hp} {v : V} {d : PyData} (h : Dp K H v d) : TyX K H v (.type (tyN d)) := by
  cases h with
  | non => exact .base .non
  | bl b => exact .base (.bl b)
  | int i => exact .base (.int i)
  | str x => exact .base (.str x)
  | lst h _ =>
    rcases h with (h | ⟨o, h⟩) | ⟨o, _, _, h, c, _⟩
    · exact .base (.lst h)
    · exact .base (.frz h)
    · exact .kList h c
  | tup h _ =>
    rcases h with (h | ⟨o, h⟩) | ⟨o, _, _, h, c, _⟩
    · exact .base (.tup h)
    · exact .fTuple h
    · exact .kTuple h c
  | dct h => exact .base (.dK h)
/-- isinstance(d, T) -/
def isTN (T n : String) : Bool := n == T || (n == "bool" && T == "int")
def isT (T : String) (d : PyData) : Bool := isTN T (tyN d)
def tyNames : List String := ["NoneType", "bool", "int", "str", "list", "tuple", "dict"]
theorem kit_names : ∀ T ∈ ["int", "bool", "str", "list", "tuple"], ∀ n ∈ tyNames, kitB n T = some (isTN T n) := by decide +kernel
theorem tyN_mem : ∀ d : PyData, tyN d ∈ tyNames
  | .none => by unfold tyN tyNames; simp
  | .bool _ => by unfold tyN tyNames; simp
  | .int _ => by unfold tyN tyNames; simp
  | .str _ => by unfold tyN tyNames; simp
  | .list _ => by unfold tyN tyNames; simp
  | .tuple _ => by unfold tyN tyNames; simp
  | .dict _ => by unfold tyN tyNames; simp
theorem kit_data {K : PySem.W.Frag} {T : String} (hT : T ∈ ["int", "bool", "str", "list", "tuple"]) (d : PyData) : PySem.W.kitOne K (.type (tyN d)) (.type T) = some (isT T d) :=
  kit_ty (kit_names T hT _ (tyN_mem d))
/-- x < y of alike data -/
def rLtD (K : PySem.W.Frag) : R2 := fun x y H Q => ∃ d e, Dp K H x d ∧ Dp K H y e ∧ PySem.W.alike d e = true ∧ d ≠ .none ∧ d.depth ≤ 8 ∧ Q (.bl (PySem.W.dataLt d e)) H
theorem op_ltD {X : Cx} (hu : X.A.units + 64 < cLine) : OpR X (compareOp .Lt) (rLtD X.K) := by
  intro pins s σ H x y v u Q I rx ry h
  obtain ⟨d, e, hd, he, al, nn, dep, q⟩ := h
  obtain ⟨as, r1⟩ := Dp.reads I d x v hd rx
  obtain ⟨bs, r2⟩ := Dp.reads I e y u he ry
  exact PySem.W.rcLt_alike d e X.A s v u as bs r1 r2 al nn (by have := Nat.min_le_left d.depth e.depth; omega) X.prog X.w _ _ ⟨.bl _, H, I, rfl, q⟩
end DQ

set_option Elab.async false
set_option linter.all false
set_option maxRecDepth 100000
set_option maxHeartbeats 1000000
namespace DQ
open PySem PySem.Spec PyProof.Rows L2
/-! ### the free names of a question -/
def freeS : Qn → List Str
  | .tr _ => []
  | .mk _ x => [x]
  | .lk _ x y => [x, y]
  | .sm x y => [x, y]
  | .nt a => freeS a
  | .cn _ a c => freeS a ++ freeS c
  | .qu _ x a => (freeS a).filter fun y => !decide (y = x)
/-- they, each once, in order -/
def freeQ (q : Qn) : List Str := sortX (firstsX (freeS q))
def Qn.dep : Qn → Nat
  | .nt a => a.dep + 1
  | .cn _ a c => max a.dep c.dep + 1
  | .qu _ _ a => a.dep + 1
  | _ => 0
/-- how many tuples -/
def Qn.sz : Qn → Nat
  | .nt a => a.sz + 1
  | .cn _ a c => a.sz + c.sz + 1
  | .qu _ _ a => a.sz + 1
  | _ => 1
theorem freeS_len : ∀ q : Qn, (freeS q).length ≤ 2 * q.sz
  | .tr _ => by simp [freeS]
  | .mk _ _ => by simp [freeS, Qn.sz]
  | .lk _ _ _ => by simp [freeS, Qn.sz]
  | .sm _ _ => by simp [freeS, Qn.sz]
  | .nt a => by have := freeS_len a; simp only [freeS, Qn.sz]; omega
  | .cn _ a c => by have := freeS_len a; have := freeS_len c; simp only [freeS, Qn.sz, List.length_append]; omega
  | .qu _ x a => by
    have := freeS_len a
    have := List.length_filter_le (fun y => !decide (y = x)) (freeS a)
    simp only [freeS, Qn.sz]; omega
theorem free_of {L xs : List Str} {q : Qn} (o : OnceX L xs) (h : ∀ x, x ∈ xs ↔ x ∈ freeS q) : sortX L = freeQ q := sortX_perm (once_perm ⟨o.1, fun x => (o.2 x).trans (h x)⟩ (firstsX_once _ _ rfl).1)
theorem mem_free {q : Qn} {x : Str} : x ∈ freeQ q ↔ x ∈ freeS q := ((sortX_sorts _).1.mem_iff).trans ((firstsX_once _ _ rfl).1.2 x)
theorem freeQ_len (q : Qn) : (freeQ q).length ≤ 2 * q.sz := by
  unfold freeQ
  rw [sortX_len]
  exact Nat.le_trans (firstsX_once _ _ rfl).2 (freeS_len q)
theorem mem_nt {a : Qn} (x : Str) : x ∈ freeQ a ↔ x ∈ freeS (.nt a) := mem_free
theorem mem_cn {b : Bool} {a c : Qn} (x : Str) : x ∈ freeQ a ++ freeQ c ↔ x ∈ freeS (.cn b a c) := by
  show _ ↔ x ∈ freeS a ++ freeS c
  rw [List.mem_append, List.mem_append, mem_free, mem_free]
theorem mem_qu {b : Bool} {y : Str} {a : Qn} (x : Str) : x ∈ (freeQ a).filter (fun z => !decide (z = y)) ↔ x ∈ freeS (.qu b y a) := by
  show _ ↔ x ∈ (freeS a).filter _
  rw [List.mem_filter, List.mem_filter, mem_free]
end DQ

set_option Elab.async false
set_option linter.all false
set_option maxRecDepth 100000
set_option maxHeartbeats 1000000
namespace DQ
open PySem PySem.Spec PyProof.Rows L2
/-! ### values that may be questions: what is wrong with a tuple itself, as data -/
def lenW (h : Str) : Option Nat :=
  if h ∈ [("true" : Str), "false"] then some 1 else if h = "not" then some 2 else if h = "link" then some 4 else if h ∈ [("mark" : Str), "same", "and", "or", "some", "all"] then some 3 else none
def atomW (h : Str) : Bool := decide (h ∈ [("mark" : Str), "link", "same"])
def quanW (h : Str) : Bool := decide (h ∈ [("some" : Str), "all"])
def jointW (h : Str) : Bool := decide (h ∈ [("not" : Str), "and", "or"])
def formQ : PyData → Bool
  | .tuple (.str h :: r) => decide (lenW h = some (r.length + 1))
  | _ => false
def wordQ : PyData → Bool
  | .str x => wordB x
  | _ => false
def wordsQ {α : Type} (h : Str) (r : List α) : List α := if atomW h then r else if quanW h then r.take 1 else []
def namesQ {α : Type} (h : Str) (r : List α) : List α := if h = "same" then r else if atomW h then r.drop 1 else []
def partsQ {α : Type} (h : Str) (r : List α) : List α := if quanW h then r.drop 1 else if jointW h then r else []
/-- the name of a quantifier is among these -/
def boundQ (h : Str) (r : List PyData) (ar : List Str) : Bool := quanW h && match r with
  | .str x :: _ => decide (x ∈ ar)
  | _ => false
def whyQ : PyData → List Str → Option Str
  | .tuple (.str h :: r), ar => if lenW h = some (r.length + 1) then (if (wordsQ h r).all wordQ then (if boundQ h r ar then some "bound" else none) else some "word") else some "form"
  | _, _ => some "form"
/-- what the judging of a value itself wants of it -/
structure Fit (d : PyData) : Prop where
  shaped : SeqAt.shaped d = true
  head : ∀ h r, d = .tuple (.str h :: r) → h = "maybe" ∨ (lenW h).isSome = true
  words : ∀ h r, d = .tuple (.str h :: r) → lenW h = some (r.length + 1) → (∀ x, PyData.str x ∈ wordsQ h r → x.length ≤ 1000)
/-! ### the same as trees -/
inductive Gn where
  | bad (d : PyData)
  | tr (b : Bool)
  | mk (m x : Str)
  | lk (c x y : Str)
  | sm (x y : Str)
  | nt (a : Gn)
  | cn (b : Bool) (a c : Gn)
  | qu (b : Bool) (x : Str) (a : Gn)
def Gn.d : Gn → PyData
  | .bad d => d
  | .tr b => .tuple [.str (trW b)]
  | .mk m x => .tuple [.str "mark", .str m, .str x]
  | .lk c x y => .tuple [.str "link", .str c, .str x, .str y]
  | .sm x y => .tuple [.str "same", .str x, .str y]
  | .nt a => .tuple [.str "not", a.d]
  | .cn b a c => .tuple [.str (cnW b), a.d, c.d]
  | .qu b x a => .tuple [.str (quW b), .str x, a.d]
def Gn.ofQ : Qn → Gn
  | .tr b => .tr b
  | .mk m x => .mk m x
  | .lk c x y => .lk c x y
  | .sm x y => .sm x y
  | .nt a => .nt (Gn.ofQ a)
  | .cn b a c => .cn b (Gn.ofQ a) (Gn.ofQ c)
  | .qu b x a => .qu b x (Gn.ofQ a)
theorem ofQ_d : ∀ q : Qn, (Gn.ofQ q).d = q.d
  | .tr _ => rfl
  | .mk _ _ => rfl
  | .lk _ _ _ => rfl
  | .sm _ _ => rfl
  | .nt a => by simp only [Gn.ofQ, Gn.d, Qn.d, ofQ_d a]
  | .cn _ a c => by simp only [Gn.ofQ, Gn.d, Qn.d, ofQ_d a, ofQ_d c]
  | .qu _ _ a => by simp only [Gn.ofQ, Gn.d, Qn.d, ofQ_d a]
def Gn.dep : Gn → Nat
  | .nt a => a.dep + 1
  | .cn _ a c => max a.dep c.dep + 1
  | .qu _ _ a => a.dep + 1
  | _ => 0
def Gn.sz : Gn → Nat
  | .nt a => a.sz + 1
  | .cn _ a c => a.sz + c.sz + 1
  | .qu _ _ a => a.sz + 1
  | _ => 1
/-- words where words belong; a bad one is bad wherever it stands -/
def Gn.ok : Gn → Prop
  | .bad d => Fit d ∧ ((formQ d = false) ∨ ∃ h r, d = .tuple (.str h :: r) ∧ lenW h = some (r.length + 1) ∧ (wordsQ h r).all wordQ = false)
  | .tr _ => True
  | .mk m x => wordB m = true ∧ wordB x = true
  | .lk c x y => wordB c = true ∧ wordB x = true ∧ wordB y = true
  | .sm x y => wordB x = true ∧ wordB y = true
  | .nt a => a.ok
  | .cn _ a c => a.ok ∧ c.ok
  | .qu _ x a => wordB x = true ∧ a.ok
def whyG : Gn → List Str → Option Str
  | .bad d, ar => whyQ d ar
  | .qu _ x _, ar => if x ∈ ar then some "bound" else none
  | _, _ => none
theorem why_bad {d : PyData} (h : (Gn.bad d).ok) (ar : List Str) : whyQ d ar = if formQ d then some "word" else some "form" := by
  obtain ⟨_, h⟩ := h
  rcases h with h | ⟨w, r, rfl, l, a⟩
  · rw [h]
    unfold formQ at h
    split at h
    · simp only [decide_eq_false_iff_not] at h
      simp only [whyQ, if_neg h]; rfl
    · rename_i d' hd
      unfold whyQ
      split
      · rename_i h' r' _
        exact absurd rfl (hd _ _)
      · rfl
  · simp only [whyQ, formQ, if_pos l, a, decide_eq_true l]; rfl
theorem lenW_cn (b : Bool) : lenW (cnW b) = some 3 := by cases b <;> decide +kernel
theorem lenW_qu (b : Bool) : lenW (quW b) = some 3 := by cases b <;> decide +kernel
theorem lenW_tr (b : Bool) : lenW (trW b) = some 1 := by cases b <;> decide +kernel
theorem why_of {g : Gn} (ok : g.ok) (ar : List Str) : whyQ g.d ar = whyG g ar := by
  cases g with
  | bad d => rfl
  | tr b =>
    have e1 : wordsQ (trW b) ([] : List PyData) = ([] : List PyData) := by cases b <;> decide +kernel
    have e2 : boundQ (trW b) [] ar = false := by unfold boundQ; exact Bool.and_false _
    show whyQ (.tuple [.str (trW b)]) ar = none
    simp only [whyQ, e1, e2, List.length_nil, lenW_tr]; rfl
  | mk m x =>
    have e1 : wordsQ "mark" ([.str m, .str x] : List PyData) = ([.str m, .str x] : List PyData) := by unfold wordsQ; rw [show atomW "mark" = true by decide +kernel]; rfl
    have e2 : boundQ "mark" [.str m, .str x] ar = false := by unfold boundQ; rw [show quanW "mark" = false by decide +kernel]; rfl
    show whyQ (.tuple [.str "mark", .str m, .str x]) ar = none
    simp only [whyQ, e1, e2, List.length_cons, List.length_nil, show lenW "mark" = some 3 by decide +kernel, List.all_cons, List.all_nil, wordQ, ok.1, ok.2]; rfl
  | lk c x y =>
    have e1 : wordsQ "link" ([.str c, .str x, .str y] : List PyData) = ([.str c, .str x, .str y] : List PyData) := by unfold wordsQ; rw [show atomW "link" = true by decide +kernel]; rfl
    have e2 : boundQ "link" [.str c, .str x, .str y] ar = false := by unfold boundQ; rw [show quanW "link" = false by decide +kernel]; rfl
    show whyQ (.tuple [.str "link", .str c, .str x, .str y]) ar = none
    simp only [whyQ, e1, e2, List.length_cons, List.length_nil, show lenW "link" = some 4 by decide +kernel, List.all_cons, List.all_nil, wordQ, ok.1, ok.2.1, ok.2.2]; rfl
  | sm x y =>
    have e1 : wordsQ "same" ([.str x, .str y] : List PyData) = ([.str x, .str y] : List PyData) := by unfold wordsQ; rw [show atomW "same" = true by decide +kernel]; rfl
    have e2 : boundQ "same" [.str x, .str y] ar = false := by unfold boundQ; rw [show quanW "same" = false by decide +kernel]; rfl
    show whyQ (.tuple [.str "same", .str x, .str y]) ar = none
    simp only [whyQ, e1, e2, List.length_cons, List.length_nil, show lenW "same" = some 3 by decide +kernel, List.all_cons, List.all_nil, wordQ, ok.1, ok.2]; rfl
  | nt a =>
    have e1 : wordsQ "not" ([a.d] : List PyData) = ([] : List PyData) := by unfold wordsQ; rw [show atomW "not" = false by decide +kernel, show quanW "not" = false by decide +kernel]; rfl
    have e2 : boundQ "not" [a.d] ar = false := by unfold boundQ; rw [show quanW "not" = false by decide +kernel]; rfl
    show whyQ (.tuple [.str "not", a.d]) ar = none
    simp only [whyQ, e1, e2, List.length_cons, List.length_nil, show lenW "not" = some 2 by decide +kernel]; rfl
  | cn b a c =>
    have e1 : wordsQ (cnW b) ([a.d, c.d] : List PyData) = ([] : List PyData) := by unfold wordsQ; rw [show atomW (cnW b) = false by cases b <;> decide +kernel, show quanW (cnW b) = false by cases b <;> decide +kernel]; rfl
    have e2 : boundQ (cnW b) [a.d, c.d] ar = false := by unfold boundQ; rw [show quanW (cnW b) = false by cases b <;> decide +kernel]; rfl
    show whyQ (.tuple [.str (cnW b), a.d, c.d]) ar = none
    simp only [whyQ, e1, e2, List.length_cons, List.length_nil, lenW_cn]; rfl
  | qu b x a =>
    have e1 : wordsQ (quW b) ([.str x, a.d] : List PyData) = ([.str x] : List PyData) := by unfold wordsQ; rw [show atomW (quW b) = false by cases b <;> decide +kernel, show quanW (quW b) = true by cases b <;> decide +kernel]; rfl
    have e2 : boundQ (quW b) [.str x, a.d] ar = decide (x ∈ ar) := by unfold boundQ; rw [show quanW (quW b) = true by cases b <;> decide +kernel]; rfl
    show whyQ (.tuple [.str (quW b), .str x, a.d]) ar = if x ∈ ar then some ("bound" : Str) else none
    simp only [whyQ, e1, e2, List.length_cons, List.length_nil, lenW_qu, List.all_cons, List.all_nil, wordQ, ok.1]
    by_cases z : x ∈ ar <;> simp [z]
/-! ### going through -/
structure En where
  g : Gn
  p : List Nat
  ar : List Str
def En.why (e : En) : Option Str := whyG e.g e.ar
def kidsG : Gn → List Nat → List Str → List En
  | .nt a, p, ar => [⟨a, p ++ [0], ar⟩]
  | .cn _ a c, p, ar => [⟨a, p ++ [0], ar⟩, ⟨c, p ++ [1], ar⟩]
  | .qu _ x a, p, ar => [⟨a, p ++ [0], ar ++ [x]⟩]
  | _, _, _ => []
def En.kids (e : En) : List En := kidsG e.g e.p e.ar
def preG : Gn → List Nat → List Str → List En
  | .nt a, p, ar => ⟨.nt a, p, ar⟩ :: preG a (p ++ [0]) ar
  | .cn b a c, p, ar => ⟨.cn b a c, p, ar⟩ :: (preG a (p ++ [0]) ar ++ preG c (p ++ [1]) ar)
  | .qu b x a, p, ar => ⟨.qu b x a, p, ar⟩ :: preG a (p ++ [0]) (ar ++ [x])
  | .bad d, p, ar => [⟨.bad d, p, ar⟩]
  | .tr b, p, ar => [⟨.tr b, p, ar⟩]
  | .mk m x, p, ar => [⟨.mk m x, p, ar⟩]
  | .lk c x y, p, ar => [⟨.lk c x y, p, ar⟩]
  | .sm x y, p, ar => [⟨.sm x y, p, ar⟩]
def En.pre (e : En) : List En := preG e.g e.p e.ar
theorem pre_eq (e : En) : e.pre = e :: e.kids.flatMap En.pre := by
  obtain ⟨g, p, ar⟩ := e
  cases g <;> simp [En.pre, En.kids, kidsG, preG]
theorem pre_len : ∀ (g : Gn) (p : List Nat) (ar : List Str), (preG g p ar).length = g.sz
  | .bad _, _, _ => rfl
  | .tr _, _, _ => rfl
  | .mk _ _, _, _ => rfl
  | .lk _ _ _, _, _ => rfl
  | .sm _ _, _, _ => rfl
  | .nt a, p, ar => by simp only [preG, List.length_cons, pre_len a, Gn.sz]
  | .cn b a c, p, ar => by simp only [preG, List.length_cons, List.length_append, pre_len a, pre_len c, Gn.sz]
  | .qu b x a, p, ar => by simp only [preG, List.length_cons, pre_len a, Gn.sz]
/-- the first that is wrong itself, and why -/
def scanE (L : List En) : Option (List Nat × Str) := L.findSome? fun e => e.why.map fun y => (e.p, y)
def fw1 (g : Gn) (p : List Nat) (ar : List Str) : Option (List Nat × Str) := scanE (preG g p ar)
theorem findSome_flat {α β γ : Type} (f : α → List β) (g : β → Option γ) : ∀ L : List α, (L.flatMap f).findSome? g = L.findSome? fun a => (f a).findSome? g
  | [] => rfl
  | a :: L => by
    rw [List.flatMap_cons, List.findSome?_append, List.findSome?_cons, findSome_flat f g L]
    cases (f a).findSome? g <;> rfl
theorem fw1_eq (e : En) : fw1 e.g e.p e.ar = match e.why with
    | some y => some (e.p, y)
    | none => e.kids.findSome? fun k => fw1 k.g k.p k.ar := by
  show scanE e.pre = _
  rw [pre_eq]
  unfold scanE
  rw [List.findSome?_cons]
  cases h : e.why with
  | some y => rfl
  | none =>
    show (e.kids.flatMap En.pre).findSome? _ = _
    exact findSome_flat _ _ _
theorem kids_ok {e : En} (ok : e.g.ok) : ∀ k ∈ e.kids, k.g.ok := by
  obtain ⟨g, p, ar⟩ := e
  intro k hk
  cases g with
  | nt a => rw [List.mem_singleton.mp hk]; exact ok
  | cn b a c =>
    rcases List.mem_cons.mp hk with rfl | hk
    · exact ok.1
    · rw [List.mem_singleton.mp hk]; exact ok.2
  | qu b x a => rw [List.mem_singleton.mp hk]; exact ok.2
  | _ => cases hk
end DQ

set_option Elab.async false
set_option linter.all false
set_option maxRecDepth 100000
set_option maxHeartbeats 1000000
namespace DQ
open PySem PySem.Spec PyProof.Rows L2
/-! ### free names as the program finds them; what is due -/
def Gn.toQ : Gn → Qn
  | .bad _ => .tr true
  | .tr b => .tr b
  | .mk m x => .mk m x
  | .lk c x y => .lk c x y
  | .sm x y => .sm x y
  | .nt a => .nt a.toQ
  | .cn b a c => .cn b a.toQ c.toQ
  | .qu b x a => .qu b x a.toQ
theorem toQ_ofQ : ∀ q : Qn, (Gn.ofQ q).toQ = q
  | .tr _ => rfl
  | .mk _ _ => rfl
  | .lk _ _ _ => rfl
  | .sm _ _ => rfl
  | .nt a => by simp only [Gn.ofQ, Gn.toQ, toQ_ofQ a]
  | .cn _ a c => by simp only [Gn.ofQ, Gn.toQ, toQ_ofQ a, toQ_ofQ c]
  | .qu _ _ a => by simp only [Gn.ofQ, Gn.toQ, toQ_ofQ a]
theorem scan_none {L : List En} : scanE L = none ↔ ∀ e ∈ L, e.why = none := by
  unfold scanE
  rw [List.findSome?_eq_none_iff]
  refine ⟨fun h e he => ?_, fun h e he => by rw [h e he]; rfl⟩
  have := h e he
  cases q : e.why with
  | none => rfl
  | some y => rw [q] at this; cases this
theorem no_bad {g : Gn} (ok : g.ok) : ∀ {p : List Nat} {ar : List Str}, (∀ e ∈ preG g p ar, e.why = none) → Gn.ofQ g.toQ = g := by
  induction g with
  | bad d =>
    intro p ar h
    have z : whyQ d ar = none := h ⟨.bad d, p, ar⟩ (List.mem_singleton.mpr rfl)
    rw [why_bad ok] at z
    split at z <;> cases z
  | tr b => intro _ _ _; rfl
  | mk m x => intro _ _ _; rfl
  | lk c x y => intro _ _ _; rfl
  | sm x y => intro _ _ _; rfl
  | nt a ih =>
    intro p ar h
    simp only [Gn.toQ, Gn.ofQ]
    rw [ih ok (p := p ++ [0]) (ar := ar) fun e he => h e (List.mem_cons_of_mem _ he)]
  | cn b a c ia ic =>
    intro p ar h
    simp only [Gn.toQ, Gn.ofQ]
    rw [ia ok.1 (p := p ++ [0]) (ar := ar) fun e he => h e (List.mem_cons_of_mem _ (List.mem_append_left _ he)), ic ok.2 (p := p ++ [1]) (ar := ar) fun e he => h e (List.mem_cons_of_mem _ (List.mem_append_right _ he))]
  | qu b x a ih =>
    intro p ar h
    simp only [Gn.toQ, Gn.ofQ]
    rw [ih ok.2 (p := p ++ [0]) (ar := ar ++ [x]) fun e he => h e (List.mem_cons_of_mem _ he)]
theorem ofQ_sz : ∀ q : Qn, (Gn.ofQ q).sz = q.sz
  | .tr _ => rfl
  | .mk _ _ => rfl
  | .lk _ _ _ => rfl
  | .sm _ _ => rfl
  | .nt a => by simp only [Gn.ofQ, Gn.sz, Qn.sz, ofQ_sz a]
  | .cn _ a c => by simp only [Gn.ofQ, Gn.sz, Qn.sz, ofQ_sz a, ofQ_sz c]
  | .qu _ _ a => by simp only [Gn.ofQ, Gn.sz, Qn.sz, ofQ_sz a]
theorem ofQ_dep : ∀ q : Qn, (Gn.ofQ q).dep = q.dep
  | .tr _ => rfl
  | .mk _ _ => rfl
  | .lk _ _ _ => rfl
  | .sm _ _ => rfl
  | .nt a => by simp only [Gn.ofQ, Gn.dep, Qn.dep, ofQ_dep a]
  | .cn _ a c => by simp only [Gn.ofQ, Gn.dep, Qn.dep, ofQ_dep a, ofQ_dep c]
  | .qu _ _ a => by simp only [Gn.ofQ, Gn.dep, Qn.dep, ofQ_dep a]
/-- the names in an atom -/
def namesG : Gn → List Str
  | .mk _ x => [x]
  | .lk _ x y => [x, y]
  | .sm x y => [x, y]
  | _ => []
def En.frees (e : En) : List Str := (namesG e.g).filter fun x => !decide (x ∈ e.ar)
def freeL (L : List En) : List Str := L.flatMap En.frees
theorem mem_frees {e : En} {y : Str} : y ∈ e.frees ↔ y ∈ namesG e.g ∧ y ∉ e.ar := by
  unfold En.frees
  rw [List.mem_filter]
  simp
theorem mem_freeL_cons {e : En} {L : List En} {y : Str} : y ∈ freeL (e :: L) ↔ (y ∈ namesG e.g ∧ y ∉ e.ar) ∨ y ∈ freeL L := by
  unfold freeL
  rw [List.flatMap_cons, List.mem_append, mem_frees]
theorem mem_freeL_app {L M : List En} {y : Str} : y ∈ freeL (L ++ M) ↔ y ∈ freeL L ∨ y ∈ freeL M := by
  unfold freeL
  rw [List.flatMap_append, List.mem_append]
theorem mem_freeL_one (e : En) (y : Str) : y ∈ freeL [e] ↔ y ∈ namesG e.g ∧ y ∉ e.ar := by
  rw [mem_freeL_cons]
  constructor
  · rintro (h | h)
    · exact h
    · cases h
  · exact Or.inl
theorem free_pre (y : Str) : ∀ (q : Qn) (p : List Nat) (ar : List Str), y ∈ freeL (preG (Gn.ofQ q) p ar) ↔ y ∈ freeS q ∧ y ∉ ar
  | .tr _, p, ar => (mem_freeL_one _ _).trans (by simp [namesG, freeS, Gn.ofQ])
  | .mk _ _, p, ar => (mem_freeL_one _ _).trans (by simp [namesG, freeS, Gn.ofQ])
  | .lk _ _ _, p, ar => (mem_freeL_one _ _).trans (by simp [namesG, freeS, Gn.ofQ])
  | .sm _ _, p, ar => (mem_freeL_one _ _).trans (by simp [namesG, freeS, Gn.ofQ])
  | .nt a, p, ar => by
    have := free_pre y a (p ++ [0]) ar
    simp only [Gn.ofQ, preG, mem_freeL_cons, this, freeS, namesG]; simp
  | .cn b a c, p, ar => by
    have h1 := free_pre y a (p ++ [0]) ar
    have h2 := free_pre y c (p ++ [1]) ar
    simp only [Gn.ofQ, preG, mem_freeL_cons, mem_freeL_app, h1, h2, freeS, namesG, List.mem_append]; simp
    constructor
    · rintro (h | h)
      · exact ⟨.inl h.1, h.2⟩
      · exact ⟨.inr h.1, h.2⟩
    · rintro ⟨h | h, n⟩
      · exact .inl ⟨h, n⟩
      · exact .inr ⟨h, n⟩
  | .qu b x a, p, ar => by
    have h1 := free_pre y a (p ++ [0]) (ar ++ [x])
    simp only [Gn.ofQ, preG, mem_freeL_cons, h1, freeS, namesG, List.mem_append, List.mem_singleton, List.mem_filter]; simp
    constructor
    · rintro ⟨h, n, m⟩; exact ⟨⟨h, m⟩, n⟩
    · rintro ⟨⟨h, m⟩, n⟩; exact ⟨h, n, m⟩
/-- a quantifier of a free name -/
def En.freeWrong (fr : List Str) (e : En) : Option (List Nat × Str) := match e.g with
  | .qu _ x _ => if x ∈ fr then some (e.p, "free") else none
  | _ => none
def fw2 (L : List En) (fr : List Str) : Option (List Nat × Str) := L.findSome? (En.freeWrong fr)
theorem fw2_congr {L : List En} {f f' : List Str} (h : ∀ x, x ∈ f ↔ x ∈ f') : fw2 L f = fw2 L f' := by
  unfold fw2
  congr 1
  funext e
  unfold En.freeWrong
  split
  · simp only [h]
  · rfl
/-- what is due -/
def dueG (g : Gn) : Option (List Nat × Str) := match fw1 g [] [] with
  | some r => some r
  | none => fw2 (preG g [] []) (freeS g.toQ)
def wrongD : Option (List Nat × Str) → PyData
  | none => .none
  | some (p, y) => .tuple [.tuple (p.map fun (k : Nat) => .int (k : Nat)), .str y]
/-! what the law draws is a question -/
theorem dq_free {ms cs ns : List Str} {k p : Nat} {q : Qn} (d : Dq ms cs ns k p q) : ∀ x ∈ freeS q, x ∈ ns := by
  induction d with
  | tr b => intro x h; cases h
  | mk hm hx => intro x h; rw [List.mem_singleton.mp h]; exact hx
  | lk hc hx hy =>
    intro x h
    rcases List.mem_cons.mp h with rfl | h
    · exact hx
    · rw [List.mem_singleton.mp h]; exact hy
  | sm hx hy =>
    intro x h
    rcases List.mem_cons.mp h with rfl | h
    · exact hx
    · rw [List.mem_singleton.mp h]; exact hy
  | nt _ ih => exact ih
  | cn _ _ _ ia ic =>
    intro x h
    rcases List.mem_append.mp h with h | h
    · exact ia x h
    · exact ic x h
  | qu _ ih =>
    intro x h
    obtain ⟨h, n⟩ := List.mem_filter.mp h
    rcases List.mem_append.mp (ih x h) with h | h
    · exact h
    · rw [List.mem_singleton.mp h] at n
      simp at n
theorem uvwt_cases (k : Nat) : uvwt k = "u" ∨ uvwt k = "v" ∨ uvwt k = "w" ∨ uvwt k = "t" := by
  unfold uvwt
  match k - 1 with
  | 0 => exact .inl rfl
  | 1 => exact .inr (.inl rfl)
  | 2 => exact .inr (.inr (.inl rfl))
  | 3 => exact .inr (.inr (.inr rfl))
  | j + 4 => exact .inr (.inr (.inr rfl))
theorem uvwt_inj : ∀ {j k : Nat}, 1 ≤ j → j ≤ 4 → 1 ≤ k → k ≤ 4 → uvwt j = uvwt k → j = k := by
  intro j k h1 h2 h3 h4
  obtain rfl | rfl | rfl | rfl : j = 1 ∨ j = 2 ∨ j = 3 ∨ j = 4 := by omega
  all_goals (obtain rfl | rfl | rfl | rfl : k = 1 ∨ k = 2 ∨ k = 3 ∨ k = 4 := by omega)
  all_goals first | (intro _; rfl) | (intro h; exact absurd h (by decide +kernel))
theorem dq_fine {ms cs ns : List Str} {k p : Nat} {q : Qn} (d : Dq ms cs ns k p q) (k4 : k ≤ 4) : ∀ (pl : List Nat) (ar : List Str), (∀ x ∈ ar, ∃ j, k < j ∧ j ≤ 4 ∧ x = uvwt j) → ∀ e ∈ preG (Gn.ofQ q) pl ar, e.why = none := by
  induction d with
  | tr b => intro pl ar _ e he; rw [List.mem_singleton.mp he]; rfl
  | mk hm hx => intro pl ar _ e he; rw [List.mem_singleton.mp he]; rfl
  | lk hc hx hy => intro pl ar _ e he; rw [List.mem_singleton.mp he]; rfl
  | sm hx hy => intro pl ar _ e he; rw [List.mem_singleton.mp he]; rfl
  | nt _ ih =>
    intro pl ar har e he
    rcases List.mem_cons.mp he with rfl | he
    · rfl
    · exact ih k4 _ _ har e he
  | cn _ _ _ ia ic =>
    intro pl ar har e he
    rcases List.mem_cons.mp he with rfl | he
    · rfl
    · rcases List.mem_append.mp he with he | he
      · exact ia k4 _ _ har e he
      · exact ic k4 _ _ har e he
  | @qu ns k p b a h ih =>
    intro pl ar har e he
    rcases List.mem_cons.mp he with rfl | he
    · show (if uvwt (k + 1) ∈ ar then some ("bound" : Str) else none) = none
      rw [if_neg]
      intro m
      obtain ⟨j, h1, h2, e⟩ := har _ m
      have := uvwt_inj (by omega) k4 (by omega) h2 e
      omega
    · refine ih (by omega) _ _ (fun x hx => ?_) e he
      rcases List.mem_append.mp hx with hx | hx
      · obtain ⟨j, h1, h2, e⟩ := har x hx
        exact ⟨j, by omega, h2, e⟩
      · exact ⟨k + 1, by omega, k4, List.mem_singleton.mp hx⟩
/-- the names of quantifiers -/
theorem dq_quant {ms cs ns : List Str} {k p : Nat} {q : Qn} (d : Dq ms cs ns k p q) : ∀ (pl : List Nat) (ar : List Str), ∀ e ∈ preG (Gn.ofQ q) pl ar, ∀ b x a, e.g = .qu b x a → ∃ j, x = uvwt j := by
  induction d with
  | tr b => intro pl ar e he b x a h; rw [List.mem_singleton.mp he] at h; cases h
  | mk hm hx => intro pl ar e he b x a h; rw [List.mem_singleton.mp he] at h; cases h
  | lk hc hx hy => intro pl ar e he b x a h; rw [List.mem_singleton.mp he] at h; cases h
  | sm hx hy => intro pl ar e he b x a h; rw [List.mem_singleton.mp he] at h; cases h
  | nt _ ih =>
    intro pl ar e he b x a h
    rcases List.mem_cons.mp he with rfl | he
    · cases h
    · exact ih _ _ e he b x a h
  | cn _ _ _ ia ic =>
    intro pl ar e he b x a h
    rcases List.mem_cons.mp he with rfl | he
    · cases h
    · rcases List.mem_append.mp he with he | he
      · exact ia _ _ e he b x a h
      · exact ic _ _ e he b x a h
  | @qu ns k p b' a' h' ih =>
    intro pl ar e he b x a h
    rcases List.mem_cons.mp he with rfl | he
    · injection h with _ h _
      exact ⟨k + 1, h.symm⟩
    · exact ih _ _ e he b x a h
theorem due_drawn {ms cs ns : List Str} {k p : Nat} {q : Qn} (d : Dq ms cs ns k p q) (k4 : k ≤ 4) (hn : ∀ x ∈ ns, x = "y" ∨ x = "x") : dueG (Gn.ofQ q) = none := by
  have f : fw1 (Gn.ofQ q) [] [] = none := scan_none.mpr (dq_fine d k4 [] [] fun x h => by cases h)
  unfold dueG
  rw [f]
  show fw2 _ _ = none
  unfold fw2
  rw [List.findSome?_eq_none_iff, toQ_ofQ]
  intro e he
  unfold En.freeWrong
  split
  · rename_i b x a hg
    rw [if_neg]
    intro m
    obtain ⟨j, rfl⟩ := dq_quant d [] [] e he b x a hg
    have h1 := hn _ (dq_free d _ m)
    rcases uvwt_cases j with h | h | h | h <;> (rw [h] at h1; exact absurd h1 (by decide +kernel))
  · rfl
theorem drawn_ok {ms cs ns : List Str} {k p : Nat} {q : Qn} (d : Dq ms cs ns k p q) (h : ∀ x, x ∈ ms ∨ x ∈ cs ∨ x ∈ ns → wordB x = true) : (Gn.ofQ q).ok := by
  induction d with
  | tr b => exact True.intro
  | mk hm hx => exact ⟨h _ (.inl hm), h _ (.inr (.inr hx))⟩
  | lk hc hx hy => exact ⟨h _ (.inr (.inl hc)), h _ (.inr (.inr hx)), h _ (.inr (.inr hy))⟩
  | sm hx hy => exact ⟨h _ (.inr (.inr hx)), h _ (.inr (.inr hy))⟩
  | nt _ ih => exact ih h
  | cn _ _ _ ia ic => exact ⟨ia h, ic h⟩
  | @qu ns k p b a h' ih =>
    have w : wordB (uvwt (k + 1)) = true := by rcases uvwt_cases (k + 1) with e | e | e | e <;> (rw [e]; decide +kernel)
    refine ⟨w, ih fun x hx => ?_⟩
    rcases hx with hx | hx | hx
    · exact h x (.inl hx)
    · exact h x (.inr (.inl hx))
    · rcases List.mem_append.mp hx with hx | hx
      · exact h x (.inr (.inr hx))
      · rw [List.mem_singleton.mp hx]; exact w
end DQ

set_option Elab.async false
set_option linter.all false
set_option maxRecDepth 100000
set_option maxHeartbeats 2000000
namespace DQ
open PySem PySem.Spec PyProof.Rows L2
/-! ### sum of lists: they are put together, one behind the other -/
def catTo (ls : Nat → Array Value) : Nat → Array Value
  | 0 => #[]
  | i + 1 => catTo ls i ++ ls i
section
variable {prog : Program} {w : World} {A : Around} {R : Result → Shared → Prop}
theorem sumL_loop (hh : A.in1.handled = none) {I l S : Addr} {vs : Array Value} (hIl : l ≠ I) (hSI : S ≠ I) (hSl : S ≠ l) (b : Nat → Addr) (look : ∀ i, i < vs.size → vs[i]? = some (.ref (b i))) (ls : Nat → Array Value) (cs : Nat → Nat) (apart : ∀ i, i < vs.size → b i ≠ I ∧ b i ≠ S) (bound : ∀ i, i ≤ vs.size → (catTo ls i).size ≤ sizeLine) :
    ∀ (k i : Nat) (u : Shared) (t : Addr) (c m : Nat), vs.size - i = k → i ≤ vs.size → u.heap.IsListIter I l i → u.heap.IsList l vs → u.heap.get? S = some { cls := .type "list", dict := none, data := .seq #[.ref t] c, slots := #[] } → IsL u.heap t (catTo ls i) m → t ≠ I → t ≠ S →
    (∀ j, j < vs.size → IsL u.heap (b j) (ls j) (cs j)) →
    (∀ h' tk t' m', (∀ a o, a ≠ I → a ≠ S → u.heap.get? a = some o → h'.get? a = some o) → IsL h' t' (catTo ls vs.size) m' → (t' = t ∨ u.heap.get? t' = none) → R (.ok (.ret (.ref t'))) { u with heap := h', toks := tk }) →
    codeAny (model prog w) A (.builtin "sum.loop" ⟨[.ref I, .ref S, rawInt 2, rawInt 0], []⟩) R u := by
  have W := Walks.list (prog := prog) (w := w) hh I l hIl vs
  intro k
  induction k with
  | zero =>
    intro i u t c m hk hi it isl hS tot tI tS parts fin
    obtain rfl : i = vs.size := by omega
    apply codeAny_builtin F.entry_sum_loop; rw [Around.under_plainId F.plain_sum_loop _]; show wpAny _ A.in1 (seqItems? (.ref S) >>= _) _ _ u
    apply wpAny_bind; apply wpAny_seqItems hS rfl; show wpAny _ A.in1 (tryCatch (pyNext (.ref I)) _ >>= _) _ _ u
    refine wpAny_bind (wpAny_tryCatch (W.done u _ _ ⟨it, isl⟩ fun h1 tk keep => ?_))
    have keep1 : ∀ a o, a ≠ I → u.heap.get? a = some o → h1.get? a = some o := fun a o na => keep a o (by simpa using na)
    exact wpAny_pure (fin h1 tk t m (fun a o na _ e => keep1 a o na e) (keep1 t _ tI tot) (.inl rfl))
  | succ k ih =>
    intro i u t c m hk hi it isl hS tot tI tS parts fin
    have lt : i < vs.size := by omega
    apply codeAny_builtin F.entry_sum_loop; rw [Around.under_plainId F.plain_sum_loop _]; show wpAny _ A.in1 (seqItems? (.ref S) >>= _) _ _ u
    apply wpAny_bind; apply wpAny_seqItems hS rfl; show wpAny _ A.in1 (tryCatch (pyNext (.ref I)) _ >>= _) _ _ u
    refine wpAny_bind (wpAny_tryCatch (W.item i u _ _ lt ⟨it, isl⟩ fun v h1 tk hv st1 keep => ?_))
    rw [look i lt] at hv
    injection hv with hv
    subst hv
    have keep1 : ∀ a o, a ≠ I → u.heap.get? a = some o → h1.get? a = some o := fun a o na => keep a o (by simpa using na)
    obtain ⟨it1, isl1⟩ := st1
    have hS1 := keep1 S _ hSI hS
    have tot1 : IsL h1 t (catTo ls i) m := keep1 t _ tI tot
    have parts1 : ∀ j, j < vs.size → IsL h1 (b j) (ls j) (cs j) := fun j hj => keep1 _ _ (apart j hj).1 (parts j hj)
    show wpAny _ A.in1 ((holding [Value.ref (b i)] (binaryOp .Add (Value.ref t) (Value.ref (b i)))).attempt >>= _) _ _ _
    have room : (catTo ls i).size + (ls i).size ≤ sizeLine := by
      have := bound (i + 1) lt
      rw [catTo, Array.size_append] at this
      exact this
    refine wpAny_bind (wpAny_attempt (wpAny_holding (PySem.P.add_list (s := { u with heap := h1, toks := tk }) tot1 (parts1 i lt) ?_ room)))
    have lost : ∀ {z : Addr} {o : Obj}, h1.get? z = some o → z ≠ h1.objs.size := fun e => Nat.ne_of_lt (Heap.lt_size e)
    obtain ⟨oI, eI, _⟩ := id it1
    have nI := lost eI
    have nS := lost hS1
    let h2 := h1.push { cls := .type "list", data := .seq (catTo ls i ++ ls i) }
    have old : ∀ a o, h1.get? a = some o → h2.get? a = some o := fun a o e => Heap.get?_push_of_some _ e
    have tot2 : IsL h2 h1.objs.size (catTo ls (i + 1)) 0 := Heap.get?_push_size _ rfl
    show wpAny _ A.in1 (updateSeq S (fun _ => #[.ref h1.objs.size]) >>= _) _ _ _
    apply wpAny_bind; apply wpAny_updateSeq (s := { u with heap := h2, toks := tk }) (old _ _ hS1) rfl
    apply wpAny_bind; apply wpAny_letGo
    have hS2 := Heap.get?_update_self (Obj.mapSeq fun _ => #[Value.ref h1.objs.size]) (old _ _ hS1) rfl
    have kp2 : ∀ a o, a ≠ S → h2.get? a = some o → (h2.update S (Obj.mapSeq fun _ => #[Value.ref h1.objs.size])).get? a = some o := fun a o na e => (Heap.get?_update_other _ _ (fun q => na q.symm)).trans e
    apply wpAny_bind; apply wpAny_updateSeq hS2 rfl
    have hS3 := Heap.get?_update_self (Obj.mapSeq fun _ => #[Value.ref h1.objs.size]) hS2 rfl
    have kp3 : ∀ a o, a ≠ S → h2.get? a = some o → ((h2.update S (Obj.mapSeq fun _ => #[Value.ref h1.objs.size])).update S (Obj.mapSeq fun _ => #[Value.ref h1.objs.size])).get? a = some o := fun a o na e => (Heap.get?_update_other _ _ (fun q => na q.symm)).trans (kp2 a o na e)
    refine wpAny_pure ⟨plainId_quiet F.plain_sum_loop _, ih (i + 1) _ h1.objs.size _ 0 (by omega) lt (it1.at fun o e => kp3 I o hSI.symm (old _ _ e)) (isl1.at fun o e => kp3 l o hSl.symm (old _ _ e)) hS3 (kp3 _ _ nS.symm tot2) nI.symm nS.symm (fun j hj => kp3 _ _ (apart j hj).2 (old _ _ (parts1 j hj))) fun h' tk' t' m' kp e new => ?_⟩
    have gone : ∀ {z : Addr}, ((h2.update S (Obj.mapSeq fun _ => #[Value.ref h1.objs.size])).update S (Obj.mapSeq fun _ => #[Value.ref h1.objs.size])).get? z = none ∨ z = h1.objs.size → u.heap.get? z = none := fun {z} q => by
      cases g : u.heap.get? z with
      | none => rfl
      | some o =>
        exfalso
        rcases q with q | q
        · by_cases zI : z = I
          · rw [zI, kp3 I oI hSI.symm (old _ _ eI)] at q
            cases q
          · by_cases zS : z = S
            · rw [zS, hS3] at q
              cases q
            · rw [kp3 z o zS (old _ _ (keep1 z o zI g))] at q
              cases q
        · by_cases zI : z = I
          · exact nI (zI.symm.trans q)
          · exact lost (keep1 z o zI g) q
    exact fin h' tk' t' m' (fun a o na ns e => kp a o na ns (kp3 a o ns (old _ _ (keep1 a o na e)))) e (.inr (gone (new.elim .inr .inl)))
end
theorem args_sum2 (a b : Value) : argsOk "sum" ⟨[a, b], []⟩ := by unfold argsOk; kernel_rfl
section
variable {prog : Program} {w : World} {A : Around} {E : Value → Shared → Prop} {u : Shared}
theorem call_sumL (hh : A.in1.in1.handled = none) (hh1 : A.in1.handled = none) {l t : Addr} {vs : Array Value} {m : Nat} (isl : u.heap.IsList l vs) (tot : IsL u.heap t #[] m) (b : Nat → Addr) (look : ∀ i, i < vs.size → vs[i]? = some (.ref (b i))) (ls : Nat → Array Value) (cs : Nat → Nat) (bound : ∀ i, i ≤ vs.size → (catTo ls i).size ≤ sizeLine) (parts : ∀ j, j < vs.size → IsL u.heap (b j) (ls j) (cs j)) {Q : Value → Shared → Prop}
    (fin : ∀ h' tk t' m', (∀ a o, u.heap.get? a = some o → h'.get? a = some o) → IsL h' t' (catTo ls vs.size) m' → (t' = t ∨ u.heap.get? t' = none) → Q (.ref t') { u with heap := h', toks := tk }) : wpAny (model prog w) A (call (.builtin "sum") [.ref l, .ref t]) Q E u := by
  apply call_function_tree F.kind_sum F.plain_sum F.entry_sum (args_sum2 _ _)
  unfold Builtin.«sum»
  simp only [List.length_cons, List.length_nil]
  rw [if_neg (by decide)]
  apply wpAny_bind; apply wpAny_of_eq (show Builtin.Builtins.bindParams "sum" ["start"] 0 ⟨[.ref t], []⟩ = pure [some (.ref t)] from rfl)
  apply wpAny_bind; apply wpAny_pyIter_list isl
  apply wpAny_bind; apply wpAny_pure
  simp only [List.forIn_cons, List.forIn_nil]
  have lt := Heap.lt_size tot
  have ll : l < u.heap.objs.size := by obtain ⟨o, e, _⟩ := isl; exact Heap.lt_size e
  have tot1 : IsL (u.heap.push { cls := .type "list_iterator", data := .fields #[.ref l, .int 0 0] }) t #[] m := Heap.get?_push_of_some _ tot
  have ty : ({ u with heap := u.heap.push { cls := .type "list_iterator", data := .fields #[.ref l, .int 0 0] } } : Shared).TypeIs (.ref t) "list" := ⟨_, tot1, rfl⟩
  apply wpAny_bind; apply wpAny_bind; apply wpAny_bind; apply wpAny_isInstance (T := "list") (b := false) ty (by rw [isSubtype_type]; kernel_rfl)
  simp only [Bool.false_eq_true, if_false]
  apply wpAny_pure; apply wpAny_bind; apply wpAny_bind; apply wpAny_isInstance (T := "list") (b := false) ty (by rw [isSubtype_type]; kernel_rfl)
  simp only [Bool.false_eq_true, if_false]
  apply wpAny_pure; apply wpAny_bind; apply wpAny_bind; apply wpAny_isInstance (T := "list") (b := false) ty (by rw [isSubtype_type]; kernel_rfl)
  simp only [Bool.false_eq_true, if_false]
  apply wpAny_pure; apply wpAny_pure
  apply wpAny_bind; refine wpAny_newObj_type ?_
  let g1 := u.heap.push { cls := .type "list_iterator", data := .fields #[.ref l, .int 0 0] }
  let g2 := g1.push { cls := .type "list", data := .seq #[.ref t] }
  have kp1 : ∀ a o, u.heap.get? a = some o → g1.get? a = some o := fun a o e => Heap.get?_push_of_some _ e
  have kp2 : ∀ a o, g1.get? a = some o → g2.get? a = some o := fun a o e => Heap.get?_push_of_some _ e
  have it : g2.IsListIter u.heap.objs.size l 0 := ⟨_, kp2 _ _ (Heap.get?_push_size _ rfl), rfl, rfl⟩
  have sz : g1.objs.size = u.heap.objs.size + 1 := Heap.size_push ..
  have neSI : g1.objs.size ≠ u.heap.objs.size := by rw [sz]; exact Nat.succ_ne_self _
  have ltg : ∀ {a : Addr}, a < u.heap.objs.size → a ≠ u.heap.objs.size ∧ a ≠ g1.objs.size := fun h => ⟨Nat.ne_of_lt h, by rw [sz]; exact Nat.ne_of_lt (Nat.lt_succ_of_lt h)⟩
  refine wpAny_pure ⟨plainId_quiet F.plain_sum_loop _, sumL_loop hh1 (ltg ll).1 neSI (ltg ll).2.symm b look ls cs (fun i hi => ltg (Heap.lt_size (parts i hi))) bound _ 0 { u with heap := g2 } t 0 m rfl (Nat.zero_le _) it (isl.at fun o e => kp2 _ _ (kp1 _ _ e)) (Heap.get?_push_size _ rfl) (kp2 _ _ (kp1 _ _ tot)) (ltg lt).1 (ltg lt).2 (fun j hj => kp2 _ _ (kp1 _ _ (parts j hj))) fun h' tk t' m' kp e new => ?_⟩
  refine fin h' tk t' m' (fun a o h => kp a o (ltg (Heap.lt_size h)).1 (ltg (Heap.lt_size h)).2 (kp2 _ _ (kp1 _ _ h))) e (new.imp id fun z => ?_)
  cases q : u.heap.get? t' with
  | none => rfl
  | some o => rw [show g2.get? t' = some o from kp2 _ _ (kp1 _ _ q)] at z; cases z
end
section
variable {X : Cx}
/-- sum(lists, []) : a list of all their items -/
def rSumL (K : PySem.W.Frag) : List V → Hp → VK → Prop := fun xs H Q => ∃ (l t : Addr) (bs : List Addr) (ys : List (List V)), xs = [.ref l, .ref t] ∧ SqL K H l (bs.map V.ref) ∧ H t = some (.lst []) ∧ ys.length = bs.length ∧ (∀ (i : Nat) (b : Addr) (y : List V), bs[i]? = some b → ys[i]? = some y → H b = some (.lst y)) ∧ ys.flatten.length ≤ sizeLine ∧
  ∀ (p : Addr) (H' : Hp), Same H H' → H' p = some (.lst ys.flatten) → Q (.ref p) H'
theorem vals_refs' : ∀ {bs : List Addr} {us : List Value}, Vals (bs.map V.ref) us → us = bs.map Value.ref
  | [], _, .nil => rfl
  | b :: bs, u :: us, .cons r t => by
    rw [List.map_cons, ← vals_refs' t]
    cases (show u = Value.ref b from r)
    rfl
theorem flat_take_len {α : Type} : ∀ (ys : List (List α)) (i : Nat), (ys.take i).flatten.length ≤ ys.flatten.length
  | [], i => by simp
  | y :: ys, 0 => by simp
  | y :: ys, i + 1 => by
    rw [List.take_succ_cons, List.flatten_cons, List.flatten_cons, List.length_append, List.length_append]
    have := flat_take_len ys i
    omega
theorem cr_sumL (hc : X.calm = true) : CallR X (.builtin "sum") (rSumL X.K) := fun pins u σ H xs us Q I rel ask => by
  obtain ⟨l, t, bs, ys, rfl, sq, et, len, parts, bound, go⟩ := ask
  obtain ⟨v1, v2, rfl, r1, r2⟩ := vals2 rel
  cases (show v1 = Value.ref l from r1)
  cases (show v2 = Value.ref t from r2)
  obtain ⟨its, rv, pl, _⟩ := I.list sq
  obtain rfl := vals_refs' rv
  obtain ⟨_, it0, m, r0, len0, e0⟩ := I.lstM et
  have it00 : it0 = [] := List.eq_nil_of_length_eq_zero len0.symm
  subst it00
  have each : ∀ i, i < bs.length → ∃ (z : List Value) (n : Nat), Vals ((ys[i]?).getD []) z ∧ IsL u.heap ((bs[i]?).getD 0) z.toArray n := fun i hi => by
    obtain ⟨_, z, n, r, _, e⟩ := I.lstM (parts i bs[i] ys[i] (List.getElem?_eq_getElem hi) (List.getElem?_eq_getElem (by omega)))
    rw [List.getElem?_eq_getElem hi, List.getElem?_eq_getElem (show i < ys.length by omega)]
    exact ⟨z, n, r, e⟩
  let pick : Nat → List Value := fun i => if h : i < bs.length then Classical.choose (each i h) else []
  have pick_ok : ∀ i, i < bs.length → ∃ n, Vals ((ys[i]?).getD []) (pick i) ∧ IsL u.heap ((bs[i]?).getD 0) (pick i).toArray n := fun i hi => by
    have z := Classical.choose_spec (each i hi)
    have e : pick i = Classical.choose (each i hi) := dif_pos hi
    rw [e]
    exact z
  let cnt : Nat → Nat := fun i => if h : i < bs.length then Classical.choose (pick_ok i h) else 0
  have cnt_ok : ∀ i, i < bs.length → IsL u.heap ((bs[i]?).getD 0) (pick i).toArray (cnt i) := fun i hi => by
    have z := (Classical.choose_spec (pick_ok i hi)).2
    have e : cnt i = Classical.choose (pick_ok i hi) := dif_pos hi
    rw [e]
    exact z
  have vals : ∀ i, i ≤ bs.length → Vals (ys.take i).flatten (catTo (fun j => (pick j).toArray) i).toList := fun i => by
    induction i with
    | zero => exact fun _ => .nil
    | succ i ih =>
      intro hi
      obtain ⟨_, r, _⟩ := pick_ok i hi
      have hy : ys[i]? = some ys[i] := List.getElem?_eq_getElem (by omega)
      rw [take_next hy, List.flatten_append, catTo, Array.toList_append]
      rw [hy] at r
      exact (ih (by omega)).append (by simpa using r)
  have sz : (bs.map Value.ref).toArray.size = bs.length := by simp
  have cap : ∀ i, i ≤ bs.length → (catTo (fun j => (pick j).toArray) i).size ≤ sizeLine := fun i hi => by
    have := (vals i hi).length
    have := flat_take_len ys i
    rw [← Array.length_toList]
    omega
  refine call_sumL (I.ok.hd hc) (I.ok.hd hc) pl.isList e0 (fun i => (bs[i]?).getD 0) (fun i hi => ?_) (fun j => (pick j).toArray) cnt (fun i hi => cap i (by rwa [sz] at hi)) (fun j hj => cnt_ok j (by rwa [sz] at hj)) fun h' tk t' m' kp e new => ?_
  · rw [sz] at hi
    simp [hi]
  · rw [sz] at e
    have vz := vals bs.length (Nat.le_refl _)
    rw [List.take_of_length_le (by omega)] at vz
    rcases new with rfl | new
    · have I1 := I.kept (t' := tk) kp
      have z : ys.flatten = [] := by
        have q := (kp _ _ e0).symm.trans e
        injection q with q
        injection q with _ _ q _
        injection q with q _
        rw [← q] at vz
        exact List.eq_nil_of_length_eq_zero vz.length
      exact ⟨.ref t', H, I1, rfl, go t' H (fun _ _ h => h) (by rw [et, z])⟩
    · have hn : H t' = none := I.hok.gone new
      exact ⟨.ref t', _, I.laidN (t' := tk) (o := .lst ys.flatten) kp new hn ⟨bound, _, m', vz, e⟩, rfl, go t' _ (same_new hn) upd_same⟩
end
end DQ

set_option Elab.async false
set_option linter.all false
set_option maxRecDepth 100000
set_option maxHeartbeats 1000000
namespace DQ
open PySem PySem.Spec PyProof.Rows L2
/-! ### _law_free -/
abbrev sFree : Stmt := topS 39
abbrev NFr : List Str := ["question", "word", "part", "found", "name"]
theorem scFree : FnScope NFr ["question"] (defScope sFree) := ⟨rfl, rfl, rfl, by decide +kernel, rfl, by decide +kernel, by decide +kernel⟩
section
variable {P : Program} {w : World} {K : PySem.W.Frag} {mg : Str → Option Value} {base : Heap}
def spFree (K : PySem.W.Frag) (N : Nat) : Sp := fun vs H Q _ => ∃ (v : V) (q : Qn), vs = [v] ∧ Dp K H v q.d ∧ q.dep < N ∧ q.sz ≤ 1000 ∧ ∀ p H', Same H H' → H p = none → H' p = some (.lst ((freeQ q).map V.str)) → Q (.ref p) H'
def tWs : List Str → TA
  | [] => tNil
  | x :: r => tCons (tC (.str x)) (tWs r)
theorem tWs_read {σ : L2.St} {H : Hp} : ∀ (ws : List Str) {R : List V → Hp → Prop}, R (ws.map V.str) H → tWs ws σ H R
  | [], _, h => h
  | x :: r, R, h => tWs_read r (R := fun xs H' => R (V.str x :: xs) H') h
theorem inV_words (y : Str) : ∀ ws : List Str, inV (.str y) (ws.map V.str) = decide (y ∈ ws)
  | [] => rfl
  | x :: r => by
    show (eqV (.str x) (.str y) || inV (.str y) (r.map V.str)) = _
    rw [inV_words y r, Bool.eq_iff_iff, Bool.or_eq_true, decide_eq_true_eq, decide_eq_true_eq, List.mem_cons]
    show (x == y) = true ∨ _ ↔ _
    rw [beq_iff_eq, eq_comm]
theorem flat_words : ∀ ws : List Str, (ws.map V.str).all flatV = true
  | [] => rfl
  | x :: r => by show (true && (r.map V.str).all flatV) = true; rw [flat_words r]; rfl
theorem in_read {σ : L2.St} {H : Hp} {R : Bool → Hp → Prop} {i : Nat} {y : Str} (ws : List Str) (hs : σ[i]? = some (some (.str y))) (few : ws.length ≤ 10) (q : ∀ H', Same H H' → R (decide (y ∈ ws)) H') : tTest (tOp (rIn K false) (tVar i) (tLst (tWs ws))) σ H R := by
  refine ⟨_, hs, tWs_read ws ⟨by rw [List.length_map, sizeLine_eq]; omega, fun p np => ⟨p, _, rfl, .inl (SqL.of upd_same), rfl, flat_words ws, _, rfl, ?_⟩⟩⟩
  show R (inV (V.str y) (ws.map V.str)) _
  rw [inV_words]
  exact q _ (same_new np)
def Qn.word : Qn → Str
  | .tr b => trW b
  | .mk _ _ => "mark"
  | .lk _ _ _ => "link"
  | .sm _ _ => "same"
  | .nt _ => "not"
  | .cn b _ _ => cnW b
  | .qu b _ _ => quW b
theorem word_at {H : Hp} {v : V} : ∀ {q : Qn}, Dp K H v q.d → ∃ a rest, v = .ref a ∧ SqT K H a (.str q.word :: rest) := fun {q} dp => by
  cases q <;> (cases dp with | tup hT r => cases r with | cons h1 r1 => cases h1; exact ⟨_, _, rfl, hT⟩)
theorem sqT_same {H H' : Hp} {a : Addr} {xs : List V} (s : Same H H') (h : SqT K H a xs) : SqT K H' a xs := by
  rcases h with (h | ⟨o, h⟩) | h
  · exact .inl (.inl (s _ _ h))
  · exact .inl (.inr ⟨o, s _ _ h⟩)
  · exact .inr h
theorem free_tr (b : Bool) : freeQ (.tr b) = [] := List.length_eq_zero_iff.mp (sortX_len [])
theorem sort_set_read {σ : L2.St} {H : Hp} {R : VK} {te : TE} {ns : List Str} {q : Qn} (few : ns.length ≤ 2100) (hq : ∀ x, x ∈ ns ↔ x ∈ freeS q) (h : ∀ R' : VK, (∀ l H', Same H H' → (SqL K H' l (ns.map V.str) ∨ SqT K H' l (ns.map V.str)) → R' (.ref l) H') → te σ H R') (r : ∀ p H', Same H H' → H p = none → H' p = some (.lst ((freeQ q).map V.str)) → R (.ref p) H') :
    tCB (rSortX P w) (tCons (tCB (rSetX P w K) (tCons te tNil)) tNil) σ H R := by
  refine h _ fun l H1 s1 hl => ⟨l, ns, rfl, hl, by unfold scanBound; omega, fun a L na o => ?_⟩
  refine ⟨a, L, rfl, upd_same, fun L1 p pm np => ?_⟩
  have s2 := same_new na (o := SetXO P w a L)
  have s3 := same_new np (o := .lst ((sortX L1).map V.str))
  refine r p _ ((s1.trans s2).trans s3) ?_ (by rw [upd_same, sortX_perm pm, free_of o hq])
  cases z : H p with
  | none => rfl
  | some u => rw [s2 _ _ (s1 _ _ z)] at np; cases np
/-- what is walked over: a text, or a question -/
def PartOk (K : PySem.W.Frag) (H : Hp) (N : Nat) (z : V × Option Qn) : Prop := match z.2 with
  | some q => Dp K H z.1 q.d ∧ q.dep < N ∧ q.sz ≤ 1000
  | none => ∃ x, z.1 = .str x
theorem dpq_same {H H' : Hp} (s : Same H H') : ∀ (q : Qn) {v : V}, Dp K H v q.d → Dp K H' v q.d := fun q => by
  have str : ∀ {v : V} {x : Str}, Dp K H v (.str x) → Dp K H' v (.str x) := fun h => by cases h; exact .str _
  have tup : ∀ {v : V} {ds : List PyData}, Dp K H v (.tuple ds) → (∀ xs, DpAll K H xs ds → DpAll K H' xs ds) → Dp K H' v (.tuple ds) := fun h f => by
    cases h with
    | tup u r => exact .tup (sqT_same s u) (f _ r)
  have nil : ∀ xs, DpAll K H xs [] → DpAll K H' xs [] := fun xs h => by cases h; exact .nil
  have cons : ∀ {d : PyData} {ds : List PyData}, (∀ v, Dp K H v d → Dp K H' v d) → (∀ xs, DpAll K H xs ds → DpAll K H' xs ds) → ∀ xs, DpAll K H xs (d :: ds) → DpAll K H' xs (d :: ds) := fun f1 f2 xs h => by
    cases h with
    | cons a r => exact .cons (f1 _ a) (f2 _ r)
  induction q with
  | tr b => exact fun h => tup h (cons (fun _ => str) nil)
  | mk m x => exact fun h => tup h (cons (fun _ => str) (cons (fun _ => str) (cons (fun _ => str) nil)))
  | lk c x y => exact fun h => tup h (cons (fun _ => str) (cons (fun _ => str) (cons (fun _ => str) (cons (fun _ => str) nil))))
  | sm x y => exact fun h => tup h (cons (fun _ => str) (cons (fun _ => str) (cons (fun _ => str) nil)))
  | nt a ih => exact fun h => tup h (cons (fun _ => str) (cons (fun _ => ih) nil))
  | cn b a c ia ic => exact fun h => tup h (cons (fun _ => str) (cons (fun _ => ia) (cons (fun _ => ic) nil)))
  | qu b x a ia => exact fun h => tup h (cons (fun _ => str) (cons (fun _ => str) (cons (fun _ => ia) nil)))
theorem PartOk.same {H H' : Hp} {N : Nat} {z : V × Option Qn} (s : Same H H') (h : PartOk K H N z) : PartOk K H' N z := by
  obtain ⟨v, o⟩ := z
  cases o with
  | none => exact h
  | some q => exact ⟨dpq_same s q h.1, h.2⟩
/-- the lists of free names of the parts so far -/
def GotFree (H1 : Hp) (D : Addr) (qs : List Qn) (H : Hp) : Prop := Same H1 H ∧ ∃ bs : List Addr, H D = some (.lst (bs.map V.ref)) ∧ bs.length = qs.length ∧ ∀ (j : Nat) (b : Addr) (q : Qn), bs[j]? = some b → qs[j]? = some q → b ≠ D ∧ H b = some (.lst ((freeQ q).map V.str))
theorem parts_loop {N : Nat} {σ : L2.St} {H : Hp} {R : Hp → Prop} {s D : Addr} {its : List (V × Option Qn)} (hσ : ∀ x : V, wipe ((wipe σ [2]).set 2 (some x)) [2] = wipe σ [2] ∧ ((wipe σ [2]).set 2 (some x))[2]? = some (some x)) (hs : SqT K H s (its.map (·.1))) (ok : ∀ z ∈ its, PartOk K H N z) (few : its.length ≤ 10) (nD : H D = none) (q : ∀ H', GotFree H D (its.filterMap (·.2)) H' → R H') :
    ∃ W : Nat → Nat → Hp → Prop, (∃ m, W 0 m (upd H D (.lst []))) ∧ ∀ i m H, W i m H →
      ((Itt K s).stop i H ∧ R H) ∨ ((Itt K s).go i H ∧ ∃ Nx : Hp → Prop, (∀ H', Nx H' → ∃ m', m' < m ∧ W (i + 1) m' H') ∧ ∀ x H', (Itt K s).yld i H x H' → gName 2 x (wipe σ [2]) H' fun σ2 H2 => wipe σ2 [2] = wipe σ [2] ∧ (tB (tCB (rIsi K) (tCons (tVar 2) (tCons (tC (V.ty "tuple")) tNil)))) σ2 H2 fun b H3 =>
        if b = true then tCall (spFree K N) [] E0 (tCons (tVar 2) tNil) σ2 H3 fun y H4 => ∃ acc, H4 D = some (.lst acc) ∧ acc.length < sizeLine ∧ Nx (upd H4 D (.lst (acc ++ [y]))) else Nx H3) := by
  refine lc_tup (xs := its.map (·.1)) (fun i H' => GotFree H D ((its.take i).filterMap (·.2)) H') ⟨same_new nD, [], upd_same, rfl, fun j b q h => by simp at h⟩ (fun i H' _ g => sqT_same g.1 hs) (fun i x H' hx g => ?_) fun H' g => q H' (by rw [List.length_map, List.take_length] at g; exact g)
  rw [List.getElem?_map] at hx
  obtain ⟨z, hz, rfl⟩ := Option.map_eq_some_iff.mp hx
  have okz := (ok z (List.mem_of_getElem? hz)).same g.1
  have tk : its.take (i + 1) = its.take i ++ [z] := by rw [List.take_succ, hz]; rfl
  obtain ⟨w1, w2⟩ := hσ z.1
  refine ⟨w1, ?_⟩
  obtain ⟨v, o⟩ := z
  cases o with
  | none =>
    obtain ⟨x, rfl⟩ := okz
    refine ⟨_, w2, .str x, .ty "tuple", _, _, _, rfl, .ty "tuple", dp_ty (.str x), kit_data (by simp) (.str x), _, rfl, iteF' (by simp only [isT, tyN]; decide) ?_⟩
    show GotFree _ _ _ _
    rw [tk, List.filterMap_append]
    simpa using g
  | some qn =>
    obtain ⟨dpz, dz, sz⟩ := okz
    have ty : isT "tuple" qn.d = true := by cases qn <;> (simp only [Qn.d, isT, tyN]; decide)
    refine ⟨_, w2, v, .ty "tuple", _, _, _, rfl, .ty "tuple", dp_ty dpz, kit_data (by simp) qn.d, _, rfl, iteT' ty ⟨v, w2, ?_⟩⟩
    refine nil_read ?_
    show spFree K N [v] H' _ _
    obtain ⟨sm, bs, eD, lb, hb⟩ := g
    refine ⟨v, qn, rfl, dpz, dz, sz, fun p H2 s2 np ep => ⟨_, s2 _ _ eD, ?_, same_upd (sm.trans s2) nD, bs ++ [p], by rw [upd_same, List.map_append]; rfl, ?_, fun j b q hj hq => ?_⟩⟩
    · rw [List.length_map, lb, sizeLine_eq]
      have := List.length_filterMap_le (fun z : V × Option Qn => z.2) (its.take i)
      rw [List.length_take] at this
      omega
    · rw [tk, List.filterMap_append, List.length_append, List.length_append, lb]; rfl
    · have npD : p ≠ D := fun e => by rw [e, eD] at np; cases np
      rw [tk, List.filterMap_append] at hq
      rcases Nat.lt_or_ge j bs.length with lt | ge
      · rw [List.getElem?_append_left lt] at hj
        rw [List.getElem?_append_left (by rw [← lb]; exact lt)] at hq
        obtain ⟨n1, e1⟩ := hb j b q hj hq
        exact ⟨n1, by rw [upd_ne n1]; exact s2 _ _ e1⟩
      · rw [List.getElem?_append_right ge] at hj
        rw [List.getElem?_append_right (by rw [← lb]; exact ge), ← lb] at hq
        have j0 : j - bs.length = 0 := by
          cases h : j - bs.length with
          | zero => rfl
          | succ k => rw [h] at hj; simp at hj
        rw [j0] at hj hq
        have e1 : p = b := by simpa using hj
        have e2 : qn = q := by simpa using hq
        subst e1
        subst e2
        exact ⟨npD, by rw [upd_ne npD]; exact ep⟩
def foundQ : Qn → List Str
  | .nt a => freeQ a
  | .cn _ a c => freeQ a ++ freeQ c
  | .qu _ _ a => freeQ a
  | _ => []
def nameQ : Qn → Str
  | .qu _ x _ => x
  | _ => ""
def keepQ (q : Qn) (z : Str) : Bool := decide (q.word ∈ [("not" : Str), "and", "or"]) || !decide (z = nameQ q)
theorem found_len (q : Qn) : (foundQ q).length ≤ 2 * q.sz := by
  cases q with
  | nt a => have := freeQ_len a; show (freeQ a).length ≤ 2 * (a.sz + 1); omega
  | cn b a c => have := freeQ_len a; have := freeQ_len c; show (freeQ a ++ freeQ c).length ≤ 2 * (a.sz + c.sz + 1); rw [List.length_append]; omega
  | qu b x a => have := freeQ_len a; show (freeQ a).length ≤ 2 * (a.sz + 1); omega
  | _ => exact Nat.zero_le _
theorem kept_free {q : Qn} (h1 : q.word ∉ [("true" : Str), "false"]) (h2 : q.word ∉ [("mark" : Str), "link", "same"]) (x : Str) : x ∈ (foundQ q).filter (keepQ q) ↔ x ∈ freeS q := by
  cases q with
  | tr b => exact absurd (show trW b ∈ [("true" : Str), "false"] by cases b <;> decide +kernel) h1
  | mk _ _ => exact absurd (show ("mark" : Str) ∈ [("mark" : Str), "link", "same"] by decide +kernel) h2
  | lk _ _ _ => exact absurd (show ("link" : Str) ∈ [("mark" : Str), "link", "same"] by decide +kernel) h2
  | sm _ _ => exact absurd (show ("same" : Str) ∈ [("mark" : Str), "link", "same"] by decide +kernel) h2
  | nt a =>
    have k : ∀ z, keepQ (.nt a) z = true := fun z => by
      unfold keepQ
      rw [show decide ((Qn.nt a).word ∈ [("not" : Str), "and", "or"]) = true from (by show decide (("not" : Str) ∈ [("not" : Str), "and", "or"]) = true; decide +kernel)]
      rfl
    rw [List.mem_filter]
    exact ⟨fun h => (mem_nt x).mp h.1, fun h => ⟨(mem_nt x).mpr h, k x⟩⟩
  | cn b a c =>
    have k : ∀ z, keepQ (.cn b a c) z = true := fun z => by
      unfold keepQ
      rw [show decide ((Qn.cn b a c).word ∈ [("not" : Str), "and", "or"]) = true from (by show decide (cnW b ∈ [("not" : Str), "and", "or"]) = true; cases b <;> decide +kernel)]
      rfl
    rw [List.mem_filter]
    exact ⟨fun h => (mem_cn (b := b) x).mp h.1, fun h => ⟨(mem_cn (b := b) x).mpr h, k x⟩⟩
  | qu b y a =>
    have k : keepQ (.qu b y a) = fun z => !decide (z = y) := funext fun z => by
      unfold keepQ
      rw [show decide ((Qn.qu b y a).word ∈ [("not" : Str), "and", "or"]) = false from (by show decide (quW b ∈ [("not" : Str), "and", "or"]) = false; cases b <;> decide +kernel)]
      rfl
    rw [k]
    exact mem_qu (b := b) x
theorem cut_one (x : V) (xs : List V) : cutV (x :: xs) (some 1) none = xs := by
  unfold cutV
  rw [show HT.sIx (x :: xs).length 0 (some 1) = min 1 (x :: xs).length from HT.sIx_nat _ 0 1, show HT.sIx (x :: xs).length (x :: xs).length none = (x :: xs).length from rfl, List.length_cons, Nat.min_eq_left (by omega)]
  show xs.take (xs.length + 1 - 1) = xs
  rw [Nat.add_sub_cancel, List.take_length]
/-- what the law walks over, behind the word -/
theorem items_of {H : Hp} {a : Addr} {N : Nat} {q : Qn} (dp : Dp K H (.ref a) q.d) (dep : q.dep < N + 1) (sz : q.sz ≤ 1000) (h1 : q.word ∉ [("true" : Str), "false"]) (h2 : q.word ∉ [("mark" : Str), "link", "same"]) :
    ∃ its : List (V × Option Qn), SqT K H a (.str q.word :: its.map (·.1)) ∧ (∀ z ∈ its, PartOk K H N z) ∧ its.length ≤ 10 ∧ its ≠ [] ∧ ((its.filterMap (·.2)).map freeQ).flatten = foundQ q ∧ (q.word ∉ [("not" : Str), "and", "or"] → (its.map (·.1))[0]? = some (.str (nameQ q))) := by
  cases q with
  | tr b => exact absurd (show trW b ∈ [("true" : Str), "false"] by cases b <;> decide +kernel) h1
  | mk _ _ => exact absurd (show ("mark" : Str) ∈ [("mark" : Str), "link", "same"] by decide +kernel) h2
  | lk _ _ _ => exact absurd (show ("link" : Str) ∈ [("mark" : Str), "link", "same"] by decide +kernel) h2
  | sm _ _ => exact absurd (show ("same" : Str) ∈ [("mark" : Str), "link", "same"] by decide +kernel) h2
  | nt b =>
    cases dp with | tup hT r =>
    cases r with | @cons v1 _ _ _ g1 r =>
    cases r with | @cons v2 _ _ _ g2 r =>
    cases g1; cases r
    have dep : b.dep + 1 < N + 1 := dep
    have sz : b.sz + 1 ≤ 1000 := sz
    refine ⟨[(v2, some b)], hT, fun z hz => ?_, by show 1 ≤ 10; decide, List.cons_ne_nil _ _, by show [freeQ b].flatten = freeQ b; simp, fun h => absurd (show ("not" : Str) ∈ [("not" : Str), "and", "or"] by decide +kernel) h⟩
    rw [List.mem_singleton.mp hz]
    exact ⟨g2, by omega, by omega⟩
  | cn w b c =>
    cases dp with | tup hT r =>
    cases r with | @cons v1 _ _ _ g1 r =>
    cases r with | @cons v2 _ _ _ g2 r =>
    cases r with | @cons v3 _ _ _ g3 r =>
    cases g1; cases r
    have dep : max b.dep c.dep + 1 < N + 1 := dep
    have sz : b.sz + c.sz + 1 ≤ 1000 := sz
    refine ⟨[(v2, some b), (v3, some c)], hT, fun z hz => ?_, by show 2 ≤ 10; decide, List.cons_ne_nil _ _, by show [freeQ b, freeQ c].flatten = freeQ b ++ freeQ c; simp, fun h => absurd (show cnW w ∈ [("not" : Str), "and", "or"] by cases w <;> decide +kernel) h⟩
    simp only [List.mem_cons, List.not_mem_nil, or_false] at hz
    rcases hz with rfl | rfl
    · exact ⟨g2, by omega, by omega⟩
    · exact ⟨g3, by omega, by omega⟩
  | qu w y b =>
    cases dp with | tup hT r =>
    cases r with | @cons v1 _ _ _ g1 r =>
    cases r with | @cons v2 _ _ _ g2 r =>
    cases r with | @cons v3 _ _ _ g3 r =>
    cases g1; cases g2; cases r
    have dep : b.dep + 1 < N + 1 := dep
    have sz : b.sz + 1 ≤ 1000 := sz
    refine ⟨[(.str y, none), (v3, some b)], hT, fun z hz => ?_, by show 2 ≤ 10; decide, List.cons_ne_nil _ _, by show [freeQ b].flatten = freeQ b; simp, fun _ => rfl⟩
    simp only [List.mem_cons, List.not_mem_nil, or_false] at hz
    rcases hz with rfl | rfl
    · exact ⟨y, rfl⟩
    · exact ⟨g3, by omega, by omega⟩
theorem free_none {f : Addr} {fd : FuncData} (F : Fun K "_law_free" "_law_free" sFree f fd) : FnOk P w K mg base CX0 5 f fd ["question"] (spFree K 0) := by
  refine F.ok scFree (fun vs H Q E h => ?_) (fun cdv A outer s H vs Q E hr h => ?_)
  · obtain ⟨_, _, rfl, _⟩ := h
    rfl
  · obtain ⟨_, _, _, _, h, _⟩ := h
    exact absurd h (Nat.not_lt_zero _)
theorem free_step {N : Nat} {f : Addr} {fd : FuncData} (F : Fun K "_law_free" "_law_free" sFree f fd) (GI : FnOk P w K mg base CX0 (N + 5) f fd ["question"] (spFree K N)) (bI : Binds K fd ["question"] []) (kI : PySem.W.keepIn K (.ref f) = true) (mI : mg "_law_free" = some (.ref f))
    (mSorted : mg "sorted" = none) (mSet : mg "set" = none) (mInt : mg "int" = none) (mSum : mg "sum" = none) (mIs : mg "isinstance" = none) (mTuple : mg "tuple" = none) : FnOk P w K mg base CX0 (N + 6) f fd ["question"] (spFree K (N + 1)) := by
  refine F.ok scFree (fun vs H Q E h => ?_) (fun cdv A outer s H vs Q E hr h => ?_)
  · obtain ⟨_, _, rfl, _⟩ := h
    rfl
  obtain ⟨v, q, rfl, dp, dep, sz, ret⟩ := h
  have nd := scFree.nd
  refine ⟨_, pss_cons (ps_set (i := 1) nd rfl (.inr rfl) (pe_ix (r := rIxT K) ix_tup (pv 0) pe_int (fun _ _ => rfl)))
    (pss_cons (ps_if (pt_cmpR (r := rIn K false) op_in_seq (pv 1) (pe_lst (pa_cons pe_str (pa_cons pe_str pa_nil))) (by with_unfolding_all rfl)) (pss_one (ps_ret (pe_lst pa_nil))) pss_nil)
    (pss_cons (ps_if (pt_cmpR (r := rIn K false) op_in_seq (pv 1) (pe_lst (pa_cons pe_str (pa_cons pe_str (pa_cons pe_str pa_nil)))) (by with_unfolding_all rfl))
      (pss_one (ps_ret (pe_callB (r := rSortX P w) (cr_sortX rfl hr.units) (by rfl) mSorted (by decide +kernel) (pa_cons (pe_callTy (r := rSetX P w K) (cr_setX rfl) (by rfl) mSet (by decide +kernel) (pa_cons
        (pe_slice (r := rSlT K) sl_tup (pv 0) (po_some (pe_op op_add pe_int (pe_callTy call_int1 (by rfl) mInt (by decide +kernel) (pa_cons (pe_cmpR op_ne (pv 1) pe_str (nomark _)) pa_nil)))) po_none) pa_nil)) pa_nil)))) pss_nil)
    (pss_cons (ps_set (i := 3) nd rfl (.inl rfl) (pe_callB (r := rSumL K) (cr_sumL rfl) (by rfl) mSum (by decide +kernel) (pa_cons
      (pe_lc (own := [("part", 2)]) (g := gName 2) rfl nd (pi_tup (pe_slice (r := rSlT K) sl_tup (pv 0) (po_some pe_int) po_none)) (blkOk_by (own := [("part", 2)]) (N := NFr) (sc := defScope sFree) (by decide +kernel)) (fun _ _ _ _ _ => pg_name (i := 2) nd rfl (Or.inl rfl))
        (fun _ _ _ _ _ => pts_one (pt_val (pe_callB (id := "isinstance") (r := rIsi K) call_isi (by rfl) mIs (by decide +kernel) (pa_cons (pv 2) (pa_cons (pe_bltn (v := .ty "tuple") (by rfl) mTuple (by decide +kernel) rfl) pa_nil)))))
        (fun _ _ _ _ _ => pe_call GI (hr.mono (by omega)) rfl mI kI bI .nil pass0 (pa_cons (pv 2) pa_nil)))
      (pa_cons (pe_lst pa_nil) pa_nil))))
    (pss_one (ps_ret (pe_callB (r := rSortX P w) (cr_sortX rfl hr.units) (by rfl) mSorted (by decide +kernel) (pa_cons (pe_callTy (r := rSetX P w K) (cr_setX rfl) (by rfl) mSet (by decide +kernel) (pa_cons
      (pe_lc (own := [("name", 4)]) (g := gName 4) rfl nd (pi_list (pv 3)) (blkOk_by (own := [("name", 4)]) (N := NFr) (sc := defScope sFree) (by decide +kernel)) (fun _ _ _ _ _ => pg_name (i := 4) nd rfl (Or.inl rfl))
        (fun _ _ _ _ _ => pts_one (PW.pt (pw_or (pt_cmpR (r := rIn K false) op_in_seq (pv 1) (pe_lst (pa_cons pe_str (pa_cons pe_str (pa_cons pe_str pa_nil)))) (by with_unfolding_all rfl)) (pw_or1 (pt_cmpR op_ne (pv 4) (pe_ix (r := rIxT K) ix_tup (pv 0) pe_int (fun _ _ => rfl)) (nomark _))))))
        (fun _ _ _ _ _ => pv 4)) pa_nil)) pa_nil))))))), ?_⟩
  obtain ⟨a, rest, rfl, hT⟩ := word_at dp
  refine seq_te (fun x H' => x = .str q.word ∧ H' = H) (fun R hR => ⟨_, rfl, a, _, 0, _, rfl, rfl, hT, atI_nat (j := 0) rfl, hR _ _ ⟨rfl, rfl⟩⟩) fun x H1 ⟨ex, eH⟩ => ?_
  subst ex
  subst eH
  show tSeq _ _ _ [some (V.ref a), some (.str q.word), none, none, none] H1
  refine seq_any (fun σ' H' => σ' = [some (V.ref a), some (.str q.word), none, none, none] ∧ Same H1 H' ∧ q.word ∉ [("true" : Str), "false"]) (fun D' rt' nx' => in_read ["true", "false"] rfl (by decide) fun H2 s2 => ?_) fun σ' H2 ⟨e', s2, w1⟩ => ?_
  · by_cases z : q.word ∈ [("true" : Str), "false"]
    · refine iteT' (decide_eq_true z) ⟨Nat.zero_le _, fun p np => ?_⟩
      rw [rt']
      have np0 : H1 p = none := by
        cases z : H1 p with
        | none => rfl
        | some o => rw [s2 _ _ z] at np; cases np
      refine ret p _ (s2.trans (same_new np)) np0 ?_
      rw [upd_same]
      cases q with
      | tr b => rw [free_tr]; rfl
      | mk _ _ => exact absurd (show ("mark" : Str) ∈ [("true" : Str), "false"] from z) (by decide +kernel)
      | lk _ _ _ => exact absurd (show ("link" : Str) ∈ [("true" : Str), "false"] from z) (by decide +kernel)
      | sm _ _ => exact absurd (show ("same" : Str) ∈ [("true" : Str), "false"] from z) (by decide +kernel)
      | nt _ => exact absurd (show ("not" : Str) ∈ [("true" : Str), "false"] from z) (by decide +kernel)
      | cn b _ _ => exact absurd (show cnW b ∈ [("true" : Str), "false"] from z) (by cases b <;> decide +kernel)
      | qu b _ _ => exact absurd (show quW b ∈ [("true" : Str), "false"] from z) (by cases b <;> decide +kernel)
    · exact iteF' (decide_eq_false z) (nx' _ _ ⟨rfl, s2, z⟩)
  subst e'
  refine seq_any (fun σ' H' => σ' = [some (V.ref a), some (.str q.word), none, none, none] ∧ Same H1 H' ∧ q.word ∉ [("mark" : Str), "link", "same"]) (fun D' rt' nx' => in_read ["mark", "link", "same"] rfl (by decide) fun H3 s3 => ?_) fun σ' H3 ⟨e', s3, w2⟩ => ?_
  · have s13 := s2.trans s3
    by_cases z : q.word ∈ [("mark" : Str), "link", "same"]
    · refine iteT' (decide_eq_true z) ?_
      have go : ∀ (xs : List V) (ns : List Str) (i : Int), SqT K H3 a xs → ns.length ≤ 2 → (∀ x, x ∈ ns ↔ x ∈ freeS q) → (1 + (if (!decide (V.str q.word = V.str "same")) = true then (1 : Int) else 0)) = i → cutV xs (some i) none = ns.map V.str → ¬ (HT.sIx xs.length 0 (some i) = 0 ∧ HT.sIx xs.length xs.length none = xs.length) → tRet (tCB (rSortX P w) (tCons (tCB (rSetX P w K) (tCons (tSl (rSlT K) (tVar 0) (tPart (tOp (rI0 fun i j => V.int (i + j)) (tC (V.int 1)) (tCB rInt1 (tCons (tOp rNe (tVar 1) (tC (V.str "same"))) tNil)))) tNoPart) tNil)) tNil)) D' [some (V.ref a), some (.str q.word), none, none, none] H3 := fun xs ns i hx few hq ei hc nw => by
        refine sort_set_read (q := q) (ns := ns) (by omega) hq (fun R hR => ?_) fun p H' s' np e => ?_
        · refine ⟨_, rfl, _, rfl, rfl, .inr ⟨_, rfl, 1, _, rfl, rfl, _, rfl, ?_⟩⟩
          rw [ei]
          refine ⟨a, xs, rfl, hx, nw, fun l nl => ?_⟩
          rw [hc]
          exact hR l _ (same_new nl) (.inr (SqT.of upd_same))
        · rw [rt']
          refine ret p H' (s13.trans s') ?_ e
          cases z : H1 p with
          | none => rfl
          | some u => rw [s13 _ _ z] at np; cases np
      have hT3 : ∀ {xs : List V}, SqT K H1 a xs → SqT K H3 a xs := fun h => sqT_same s13 h
      cases q with
      | tr b => exact absurd (show trW b ∈ [("mark" : Str), "link", "same"] from z) (by cases b <;> decide +kernel)
      | mk m x =>
        cases dp with | tup hT r =>
        cases r with | cons h1 r =>
        cases r with | cons h2 r =>
        cases r with | cons h3 r =>
        cases h1; cases h2; cases h3; cases r
        exact go _ [x] 2 (hT3 hT) (by show 1 ≤ 2; decide) (fun y => Iff.rfl) (show (1 + (if (!decide (V.str "mark" = V.str "same")) = true then (1 : Int) else 0)) = 2 by decide +kernel) rfl (by show ¬ (HT.sIx 3 0 (some 2) = 0 ∧ HT.sIx 3 3 none = 3); decide)
      | lk c x y =>
        cases dp with | tup hT r =>
        cases r with | cons h1 r =>
        cases r with | cons h2 r =>
        cases r with | cons h3 r =>
        cases r with | cons h4 r =>
        cases h1; cases h2; cases h3; cases h4; cases r
        exact go _ [x, y] 2 (hT3 hT) (by show 2 ≤ 2; decide) (fun y => Iff.rfl) (show (1 + (if (!decide (V.str "link" = V.str "same")) = true then (1 : Int) else 0)) = 2 by decide +kernel) rfl (by show ¬ (HT.sIx 4 0 (some 2) = 0 ∧ HT.sIx 4 4 none = 4); decide)
      | sm x y =>
        cases dp with | tup hT r =>
        cases r with | cons h1 r =>
        cases r with | cons h2 r =>
        cases r with | cons h3 r =>
        cases h1; cases h2; cases h3; cases r
        exact go _ [x, y] 1 (hT3 hT) (by show 2 ≤ 2; decide) (fun y => Iff.rfl) (show (1 + (if (!decide (V.str "same" = V.str "same")) = true then (1 : Int) else 0)) = 1 by decide +kernel) rfl (by show ¬ (HT.sIx 3 0 (some 1) = 0 ∧ HT.sIx 3 3 none = 3); decide)
      | nt _ => exact absurd (show ("not" : Str) ∈ [("mark" : Str), "link", "same"] from z) (by decide +kernel)
      | cn b _ _ => exact absurd (show cnW b ∈ [("mark" : Str), "link", "same"] from z) (by cases b <;> decide +kernel)
      | qu b _ _ => exact absurd (show quW b ∈ [("mark" : Str), "link", "same"] from z) (by cases b <;> decide +kernel)
    · exact iteF' (decide_eq_false z) (nx' _ _ ⟨rfl, s13, z⟩)
  subst e'
  have dp3 := dpq_same s3 q dp
  obtain ⟨its, hits, okI, fewI, neI, flI, nmI⟩ := items_of dp3 dep sz w1 w2
  have lenF := found_len q
  refine seq_te (fun x H' => ∃ p, x = .ref p ∧ H' p = some (.lst ((foundQ q).map V.str)) ∧ Same H3 H') (fun R hR => ?_) fun x H5 ⟨p5, ex, e5, s5⟩ => ?_
  · refine ⟨_, rfl, 1, rfl, a, _, rfl, hits, ?_, fun l nl => ?_⟩
    · have : 1 ≤ its.length := Nat.pos_of_ne_zero fun e => neI (List.length_eq_zero_iff.mp e)
      intro ⟨z, _⟩
      rw [show HT.sIx (V.str q.word :: its.map (·.1)).length 0 (some 1) = min 1 (V.str q.word :: its.map (·.1)).length from HT.sIx_nat _ 0 1, List.length_cons] at z
      omega
    rw [cut_one]
    have sl := same_new nl (o := .tup (its.map (·.1)))
    refine ⟨l, rfl, ⟨_, SqT.of upd_same⟩, fun D nD => ?_⟩
    refine parts_loop (s := l) (its := its) (N := N) (fun x => ⟨rfl, rfl⟩) (SqT.of upd_same) (fun z hz => (okI z hz).same sl) fewI nD fun H' g => ?_
    obtain ⟨sm, bs, eD, lb, hb⟩ := g
    refine ⟨Nat.zero_le _, fun t nt => ?_⟩
    refine nil_read ?_
    have st := same_new nt (o := .lst [])
    have fl : (((its.filterMap (·.2)).map fun q => (freeQ q).map V.str)).flatten = (foundQ q).map V.str := by
      rw [← flI, List.map_flatten, List.map_map]; rfl
    refine ⟨D, t, bs, (its.filterMap (·.2)).map fun q => (freeQ q).map V.str, rfl, SqL.of (st _ _ eD), upd_same, by rw [List.length_map, lb], fun i b y hb1 hy => ?_, by rw [fl, List.length_map, sizeLine_eq]; omega, fun p H6 s6 e6 => hR _ _ ⟨p, rfl, by rw [e6, fl], ((sl.trans sm).trans st).trans s6⟩⟩
    rw [List.getElem?_map] at hy
    obtain ⟨qn, hq, rfl⟩ := Option.map_eq_some_iff.mp hy
    exact st _ _ (hb i b qn hb1 hq).2
  subst ex
  show tRet _ _ [some (V.ref a), some (.str q.word), none, some (.ref p5), none] H5
  have s15 := s3.trans s5
  have hits5 := sqT_same s5 hits
  refine sort_set_read (q := q) (ns := (foundQ q).filter (keepQ q)) (by have := List.length_filter_le (keepQ q) (foundQ q); omega) (kept_free w1 w2) (fun R hR => ?_) fun p H' s' np e => ?_
  · refine ⟨_, rfl, p5, rfl, ⟨_, SqL.of e5⟩, fun D nD => ?_⟩
    refine lc_list (xs := (foundQ q).map V.str) (fun i H' => Same H5 H' ∧ H' D = some (.lst ((((foundQ q).take i).filter (keepQ q)).map V.str))) ⟨same_new nD, upd_same⟩ (fun i H' _ g => SqL.of (g.1 _ _ e5)) (fun i x H' hx g => ?_) fun H' g => ?_
    · rw [List.getElem?_map] at hx
      obtain ⟨z, hz, rfl⟩ := Option.map_eq_some_iff.mp hx
      have tk : (foundQ q).take (i + 1) = (foundQ q).take i ++ [z] := by rw [List.take_succ, hz]; rfl
      refine ⟨rfl, ?_⟩
      have keep : ∀ H6, Same H' H6 → (fun b H3 => if b = true then tVar 4 [some (V.ref a), some (.str q.word), none, some (.ref p5), some (.str z)] H3 (fun y H4 => ∃ acc, H4 D = some (.lst acc) ∧ acc.length < sizeLine ∧ (Same H5 (L2.upd H4 D (.lst (acc ++ [y]))) ∧ L2.upd H4 D (.lst (acc ++ [y])) D = some (.lst ((((foundQ q).take (i + 1)).filter (keepQ q)).map V.str)))) else (Same H5 H3 ∧ H3 D = some (.lst ((((foundQ q).take (i + 1)).filter (keepQ q)).map V.str)))) (keepQ q z) H6 := fun H6 s6 => by
        have e6 := s6 _ _ g.2
        cases hk : keepQ q z with
        | true =>
          refine iteT' rfl ⟨_, rfl, _, e6, ?_, same_upd (g.1.trans s6) nD, ?_⟩
          · have := List.length_filter_le (keepQ q) ((foundQ q).take i)
            rw [List.length_take] at this
            rw [List.length_map, sizeLine_eq]; omega
          · rw [upd_same, tk, List.filter_append, List.map_append, show [z].filter (keepQ q) = [z] by simp [hk]]; rfl
        | false => exact iteF' rfl ⟨g.1.trans s6, by rw [e6, tk, List.filter_append, show [z].filter (keepQ q) = [] by simp [hk], List.append_nil]⟩
      by_cases c : q.word ∈ [("not" : Str), "and", "or"]
      · refine in_read ["not", "and", "or"] rfl (by decide) fun H6 s6 => ?_
        have k := keep H6 s6
        rw [show keepQ q z = true by unfold keepQ; rw [decide_eq_true c]; rfl] at k
        rw [decide_eq_true c]
        exact iteT' rfl k
      · refine in_read ["not", "and", "or"] rfl (by decide) fun H6 s6 => ?_
        have k := keep H6 s6
        rw [show keepQ q z = !decide (z = nameQ q) by unfold keepQ; rw [decide_eq_false c]; rfl] at k
        rw [decide_eq_false c]
        have h1 : (V.str q.word :: its.map (·.1))[1]? = some (.str (nameQ q)) := nmI c
        refine iteF' rfl ⟨_, rfl, _, rfl, a, _, 1, _, rfl, rfl, sqT_same (g.1.trans s6) hits5, atI_nat (j := 1) h1, rfl, _, rfl, ?_⟩
        rw [show decide (V.str z = V.str (nameQ q)) = decide (z = nameQ q) by simp]
        exact k
    · rw [List.length_map, List.take_length] at g
      exact hR D _ g.1 (.inl (SqL.of g.2))
  · refine ret p H' (s15.trans s') ?_ e
    cases z : H1 p with
    | none => rfl
    | some u => rw [s15 _ _ z] at np; cases np
theorem ok_free {f : Addr} {fd : FuncData} (F : Fun K "_law_free" "_law_free" sFree f fd) (bI : Binds K fd ["question"] []) (kI : PySem.W.keepIn K (.ref f) = true) (mI : mg "_law_free" = some (.ref f))
    (mSorted : mg "sorted" = none) (mSet : mg "set" = none) (mInt : mg "int" = none) (mSum : mg "sum" = none) (mIs : mg "isinstance" = none) (mTuple : mg "tuple" = none) : ∀ N : Nat, FnOk P w K mg base CX0 (N + 5) f fd ["question"] (spFree K N)
  | 0 => free_none F
  | N + 1 => free_step F (ok_free F bI kI mI mSorted mSet mInt mSum mIs mTuple N) bI kI mI mSorted mSet mInt mSum mIs mTuple
end
end DQ

set_option Elab.async false
set_option linter.all false
set_option maxRecDepth 100000
set_option maxHeartbeats 1000000
namespace DQ
open PySem PySem.Spec PyProof.Rows L2
/-! ### words_in, names_in, parts; the law's own parts -/
abbrev sWordsIn : Stmt := topS 14
abbrev sNamesIn : Stmt := topS 15
abbrev sParts : Stmt := topS 16
abbrev sWithin : Stmt := topS 44
theorem scWordsIn : FnScope ["one"] ["one"] (defScope sWordsIn) := ⟨rfl, rfl, rfl, by decide +kernel, rfl, by decide +kernel, by decide +kernel⟩
theorem scNamesIn : FnScope ["one"] ["one"] (defScope sNamesIn) := ⟨rfl, rfl, rfl, by decide +kernel, rfl, by decide +kernel, by decide +kernel⟩
theorem scParts : FnScope ["one"] ["one"] (defScope sParts) := ⟨rfl, rfl, rfl, by decide +kernel, rfl, by decide +kernel, by decide +kernel⟩
theorem scWithin : FnScope ["value"] ["value"] (defScope sWithin) := ⟨rfl, rfl, rfl, by decide +kernel, rfl, by decide +kernel, by decide +kernel⟩
abbrev atomsL : List Str := ["mark", "link", "same"]
abbrev quansL : List Str := ["some", "all"]
abbrev jointsL : List Str := ["not", "and", "or"]
section
variable {P : Program} {w : World} {K : PySem.W.Frag} {mg : Str → Option Value} {base : Heap}
/-- a list of what stands behind a word -/
def spPickL (K : PySem.W.Frag) (f : Str → List V → List V) : Sp := fun vs H Q _ => ∃ (a : Addr) (h : Str) (r : List V), vs = [.ref a] ∧ SqT K H a (.str h :: r) ∧ r.length ≤ 10 ∧ (lenW h = some (r.length + 1)) ∧ ∀ p H', Same H H' → H p = none → H' p = some (.lst (f h r)) → Q (.ref p) H'
theorem len_atom {h : Str} {n : Nat} (l : lenW h = some n) (a : atomW h = true) : 3 ≤ n := by
  have m : h = "mark" ∨ h = "link" ∨ h = "same" := by simpa [atomW] using a
  rcases m with rfl | rfl | rfl
  · rw [show lenW "mark" = some 3 by decide +kernel] at l; injection l; omega
  · rw [show lenW "link" = some 4 by decide +kernel] at l; injection l; omega
  · rw [show lenW "same" = some 3 by decide +kernel] at l; injection l; omega
theorem len_quan {h : Str} {n : Nat} (l : lenW h = some n) (a : quanW h = true) : n = 3 := by
  have m : h = "some" ∨ h = "all" := by simpa [quanW] using a
  rcases m with rfl | rfl
  · rw [show lenW "some" = some 3 by decide +kernel] at l; injection l; omega
  · rw [show lenW "all" = some 3 by decide +kernel] at l; injection l; omega
/-- word in a written tuple of the module -/
theorem headin_read {σ : L2.St} {H : Hp} {R : Bool → Hp → Prop} {i : Nat} {a r : Addr} {h : Str} {rest : List V} (ws : List Str) (hs : σ[i]? = some (some (.ref a))) (hT : SqT K H a (.str h :: rest)) (hr : ∀ H, SqT K H r (ws.map V.str)) (q : R (decide (h ∈ ws)) H) : tTest (tOp (rIn K false) (tOp (rIxT K) (tVar i) (tC (.int 0))) (tC (.ref r))) σ H R := by
  refine ⟨_, hs, a, _, 0, _, rfl, rfl, hT, atI_nat (j := 0) rfl, ⟨r, _, rfl, .inr (hr _), rfl, flat_words ws, _, rfl, ?_⟩⟩
  show R (inV (V.str h) (ws.map V.str)) _
  rw [inV_words]
  exact q
/-- word in a list, written there -/
theorem headinL_read {σ : L2.St} {H : Hp} {R : Bool → Hp → Prop} {i : Nat} {a : Addr} {h : Str} {rest : List V} (ws : List Str) (hs : σ[i]? = some (some (.ref a))) (hT : SqT K H a (.str h :: rest)) (few : ws.length ≤ 20) (q : ∀ H', Same H H' → R (decide (h ∈ ws)) H') : tTest (tOp (rIn K false) (tOp (rIxT K) (tVar i) (tC (.int 0))) (tLst (tWs ws))) σ H R := by
  refine ⟨_, hs, a, _, 0, _, rfl, rfl, hT, atI_nat (j := 0) rfl, tWs_read ws ⟨by rw [List.length_map, sizeLine_eq]; omega, fun p np => ⟨p, _, rfl, .inl (SqL.of upd_same), rfl, flat_words ws, _, rfl, ?_⟩⟩⟩
  show R (inV (V.str h) (ws.map V.str)) _
  rw [inV_words]
  exact q _ (same_new np)
/-- word in a tuple, written there -/
theorem headinT_read {σ : L2.St} {H : Hp} {R : Bool → Hp → Prop} {i : Nat} {a : Addr} {h : Str} {rest : List V} (ws : List Str) (hs : σ[i]? = some (some (.ref a))) (hT : SqT K H a (.str h :: rest)) (few : ws.length ≤ 20) (q : ∀ H', Same H H' → R (decide (h ∈ ws)) H') : tTest (tOp (rIn K false) (tOp (rIxT K) (tVar i) (tC (.int 0))) (tTup (tWs ws))) σ H R := by
  refine ⟨_, hs, a, _, 0, _, rfl, rfl, hT, atI_nat (j := 0) rfl, tWs_read ws ⟨by rw [List.length_map, sizeLine_eq]; omega, fun p np => ⟨p, _, rfl, .inr (SqT.of upd_same), rfl, flat_words ws, _, rfl, ?_⟩⟩⟩
  show R (inV (V.str h) (ws.map V.str)) _
  rw [inV_words]
  exact q _ (same_new np)
theorem cut_from (k : Nat) (xs : List V) : cutV xs (some (k : Int)) none = xs.drop k := by
  unfold cutV
  rw [show HT.sIx xs.length 0 (some (k : Int)) = min k xs.length from HT.sIx_nat _ 0 k, show HT.sIx xs.length xs.length none = xs.length from rfl]
  rcases Nat.le_total k xs.length with h | h
  · rw [Nat.min_eq_left h, List.take_of_length_le (by rw [List.length_drop]; exact Nat.le_refl _)]
  · rw [Nat.min_eq_right h, Nat.sub_self, List.take_zero, List.drop_eq_nil_of_le h]
abbrev rLstOf (K : PySem.W.Frag) : List V → Hp → VK → Prop := fun xs H Q => ∃ p ys, xs = [V.ref p] ∧ (SqL K H p ys ∨ SqT K H p ys) ∧ ∀ l, H l = none → Q (.ref l) (upd H l (.lst ys))
/-- list(one[k:]) -/
theorem list_from {σ : L2.St} {H : Hp} {R : VK} {i : Nat} {a : Addr} {xs : List V} (k : Nat) (hs : σ[i]? = some (some (.ref a))) (hT : SqT K H a xs) (k1 : 1 ≤ k) (ne : xs ≠ []) (q : ∀ p H', Same H H' → H p = none → H' p = some (.lst (xs.drop k)) → R (.ref p) H') :
    tCB (rLstOf K) (tCons (tSl (rSlT K) (tVar i) (tPart (tC (.int (k : Nat)))) tNoPart) tNil) σ H R := by
  have pos : 1 ≤ xs.length := Nat.pos_of_ne_zero fun e => ne (List.length_eq_zero_iff.mp e)
  refine ⟨_, hs, _, rfl, a, _, rfl, hT, fun ⟨z, _⟩ => ?_, fun l nl => nil_read ⟨l, _, rfl, .inr (SqT.of upd_same), fun p np => ?_⟩⟩
  · rw [show HT.sIx xs.length 0 (some (k : Int)) = min k xs.length from HT.sIx_nat _ 0 k] at z
    omega
  · have s1 := same_new nl (o := .tup (cutV xs (some (k : Int)) none))
    refine q p _ (s1.trans (same_new np)) ?_ (by rw [upd_same, cut_from])
    cases z : H p with
    | none => rfl
    | some o => rw [s1 _ _ z] at np; cases np
theorem none_before {H H' : Hp} {p : Addr} (s : Same H H') (n : H' p = none) : H p = none := by
  cases z : H p with
  | none => rfl
  | some o => rw [s _ _ z] at n; cases n
/-- [one[k]] -/
theorem one_at {σ : L2.St} {H : Hp} {R : VK} {i k : Nat} {a : Addr} {xs : List V} {x : V} (hs : σ[i]? = some (some (.ref a))) (hT : SqT K H a xs) (hk : xs[k]? = some x) (q : ∀ p H', Same H H' → H p = none → H' p = some (.lst [x]) → R (.ref p) H') :
    tLst (tCons (tOp (rIxT K) (tVar i) (tC (.int (k : Nat)))) tNil) σ H R :=
  ⟨_, hs, a, _, _, _, rfl, rfl, hT, atI_nat hk, nil_read ⟨by show 1 ≤ sizeLine; decide, fun p np => q p _ (same_new np) np upd_same⟩⟩
theorem empty_read {σ : L2.St} {H : Hp} {R : VK} (q : ∀ p H', Same H H' → H p = none → H' p = some (.lst []) → R (.ref p) H') : tLst tNil σ H R := ⟨Nat.zero_le _, fun p np => q p _ (same_new np) np upd_same⟩
theorem ok_wordsIn {f rA rQ : Addr} {fd : FuncData} (F : Fun K "words_in" "words_in" sWordsIn f fd) (mA : mg "ATOMS" = some (.ref rA)) (eA : ∀ H, SqT K H rA (atomsL.map V.str)) (mQ : mg "QUANTIFIERS" = some (.ref rQ)) (eQ : ∀ H, SqT K H rQ (quansL.map V.str)) (mList : mg "list" = none) : FnOk P w K mg base CX0 1 f fd ["one"] (spPickL K wordsQ) := by
  refine F.ok scWordsIn (fun vs H Q E h => ?_) (fun cdv A outer s H vs Q E hr h => ?_)
  · obtain ⟨_, _, _, rfl, _⟩ := h
    rfl
  obtain ⟨a, h, r, rfl, hT, few, len, q⟩ := h
  refine ⟨_, pss_cons (ps_if (pt_cmpR (r := rIn K false) op_in_seq (pe_ix (r := rIxT K) ix_tup (pv 0) pe_int (fun _ _ => rfl)) (pe_glob (v := .ref rA) (by rfl) mA rfl) (by rfl)) (pss_one (ps_ret (pe_callTy (r := rLstOf K) call_list_of (by rfl) mList (by decide +kernel) (pa_cons (pe_slice (r := rSlT K) sl_tup (pv 0) (po_some pe_int) po_none) pa_nil)))) pss_nil)
    (pss_cons (ps_if (pt_cmpR (r := rIn K false) op_in_seq (pe_ix (r := rIxT K) ix_tup (pv 0) pe_int (fun _ _ => rfl)) (pe_glob (v := .ref rQ) (by rfl) mQ rfl) (by rfl)) (pss_one (ps_ret (pe_lst (pa_cons (pe_ix (r := rIxT K) ix_tup (pv 0) pe_int (fun _ _ => rfl)) pa_nil)))) pss_nil)
    (pss_one (ps_ret (pe_lst pa_nil)))), ?_⟩
  refine headin_read atomsL rfl hT eA ?_
  cases c1 : decide (h ∈ atomsL) with
  | true =>
    refine iteT' rfl (list_from 1 rfl hT (by decide) (List.cons_ne_nil _ _) fun p H' s np e => q p H' s np ?_)
    rw [e]
    unfold wordsQ
    rw [show atomW h = true from c1]; rfl
  | false =>
    refine iteF' rfl (headin_read quansL rfl hT eQ ?_)
    cases c2 : decide (h ∈ quansL) with
    | true =>
      have l2 := len_quan len c2
      obtain ⟨x, y, rfl⟩ : ∃ x y, r = [x, y] := by
        match r, l2 with
        | [x, y], _ => exact ⟨x, y, rfl⟩
      refine iteT' rfl (one_at (k := 1) rfl hT rfl fun p H' s np e => q p H' s np ?_)
      rw [e]
      unfold wordsQ
      rw [show atomW h = false from c1, show quanW h = true from c2]; rfl
    | false =>
      refine iteF' rfl (empty_read (σ := []) fun p H' s np e => q p H' s np ?_)
      rw [e]
      unfold wordsQ
      rw [show atomW h = false from c1, show quanW h = false from c2]; rfl
theorem ok_parts {f rQ : Addr} {fd : FuncData} (F : Fun K "parts" "parts" sParts f fd) (mQ : mg "QUANTIFIERS" = some (.ref rQ)) (eQ : ∀ H, SqT K H rQ (quansL.map V.str)) (mList : mg "list" = none) : FnOk P w K mg base CX0 1 f fd ["one"] (spPickL K partsQ) := by
  refine F.ok scParts (fun vs H Q E h => ?_) (fun cdv A outer s H vs Q E hr h => ?_)
  · obtain ⟨_, _, _, rfl, _⟩ := h
    rfl
  obtain ⟨a, h, r, rfl, hT, few, len, q⟩ := h
  refine ⟨_, pss_cons (ps_if (pt_cmpR (r := rIn K false) op_in_seq (pe_ix (r := rIxT K) ix_tup (pv 0) pe_int (fun _ _ => rfl)) (pe_glob (v := .ref rQ) (by rfl) mQ rfl) (by rfl)) (pss_one (ps_ret (pe_lst (pa_cons (pe_ix (r := rIxT K) ix_tup (pv 0) pe_int (fun _ _ => rfl)) pa_nil)))) pss_nil)
    (pss_cons (ps_if (pt_cmpR (r := rIn K false) op_in_seq (pe_ix (r := rIxT K) ix_tup (pv 0) pe_int (fun _ _ => rfl)) (pe_tup (pa_cons pe_str (pa_cons pe_str (pa_cons pe_str pa_nil)))) (by with_unfolding_all rfl)) (pss_one (ps_ret (pe_callTy (r := rLstOf K) call_list_of (by rfl) mList (by decide +kernel) (pa_cons (pe_slice (r := rSlT K) sl_tup (pv 0) (po_some pe_int) po_none) pa_nil)))) pss_nil)
    (pss_one (ps_ret (pe_lst pa_nil)))), ?_⟩
  refine headin_read quansL rfl hT eQ ?_
  cases c1 : decide (h ∈ quansL) with
  | true =>
    have l2 := len_quan len c1
    obtain ⟨x, y, rfl⟩ : ∃ x y, r = [x, y] := by
      match r, l2 with
      | [x, y], _ => exact ⟨x, y, rfl⟩
    refine iteT' rfl (one_at (k := 2) rfl hT rfl fun p H' s np e => q p H' s np ?_)
    rw [e]
    unfold partsQ
    rw [show quanW h = true from c1]; rfl
  | false =>
    refine iteF' rfl (headinT_read jointsL rfl hT (by decide) fun H1 s1 => ?_)
    have hT1 := sqT_same s1 hT
    cases c2 : decide (h ∈ jointsL) with
    | true =>
      refine iteT' rfl (list_from 1 rfl hT1 (by decide) (List.cons_ne_nil _ _) fun p H' s np e => q p H' (s1.trans s) (none_before s1 np) ?_)
      rw [e]
      unfold partsQ
      rw [show quanW h = false from c1, show jointW h = true from c2]; rfl
    | false =>
      refine iteF' rfl (empty_read (σ := []) fun p H' s np e => q p H' (s1.trans s) (none_before s1 np) ?_)
      rw [e]
      unfold partsQ
      rw [show quanW h = false from c1, show jointW h = false from c2]; rfl
theorem ok_namesIn {f rA : Addr} {fd : FuncData} (F : Fun K "names_in" "names_in" sNamesIn f fd) (mA : mg "ATOMS" = some (.ref rA)) (eA : ∀ H, SqT K H rA (atomsL.map V.str)) (mList : mg "list" = none) : FnOk P w K mg base CX0 1 f fd ["one"] (spPickL K namesQ) := by
  refine F.ok scNamesIn (fun vs H Q E h => ?_) (fun cdv A outer s H vs Q E hr h => ?_)
  · obtain ⟨_, _, _, rfl, _⟩ := h
    rfl
  obtain ⟨a, h, r, rfl, hT, few, len, q⟩ := h
  refine ⟨_, pss_cons (ps_if (pt_cmpR op_eq (pe_ix (r := rIxT K) ix_tup (pv 0) pe_int (fun _ _ => rfl)) pe_str (nomark _)) (pss_one (ps_ret (pe_callTy (r := rLstOf K) call_list_of (by rfl) mList (by decide +kernel) (pa_cons (pe_slice (r := rSlT K) sl_tup (pv 0) (po_some pe_int) po_none) pa_nil)))) pss_nil)
    (pss_cons (ps_if (pt_cmpR (r := rIn K false) op_in_seq (pe_ix (r := rIxT K) ix_tup (pv 0) pe_int (fun _ _ => rfl)) (pe_glob (v := .ref rA) (by rfl) mA rfl) (by rfl)) (pss_one (ps_ret (pe_callTy (r := rLstOf K) call_list_of (by rfl) mList (by decide +kernel) (pa_cons (pe_slice (r := rSlT K) sl_tup (pv 0) (po_some pe_int) po_none) pa_nil)))) pss_nil)
    (pss_one (ps_ret (pe_lst pa_nil)))), ?_⟩
  refine ⟨_, rfl, a, _, 0, _, rfl, rfl, hT, atI_nat (j := 0) rfl, rfl, _, rfl, ?_⟩
  by_cases c1 : V.str h = V.str "same"
  · refine iteT' (decide_eq_true c1) (list_from 1 rfl hT (by decide) (List.cons_ne_nil _ _) fun p H' s np e => q p H' s np ?_)
    injection c1 with c1
    rw [e]
    unfold namesQ
    rw [if_pos c1]; rfl
  · refine iteF' (decide_eq_false c1) ?_
    have c1' : h ≠ "same" := fun e => c1 (by rw [e])
    refine headin_read atomsL rfl hT eA ?_
    cases c2 : decide (h ∈ atomsL) with
    | true =>
      refine iteT' rfl (list_from 2 rfl hT (by decide) (List.cons_ne_nil _ _) fun p H' s np e => q p H' s np ?_)
      rw [e]
      unfold namesQ
      rw [if_neg c1', show atomW h = true from c2]; rfl
    | false =>
      refine iteF' rfl (empty_read (σ := []) fun p H' s np e => q p H' s np ?_)
      rw [e]
      unfold namesQ
      rw [if_neg c1', show atomW h = false from c2]; rfl
theorem ok_within {f : Addr} {fd : FuncData} (F : Fun K "_law_within_of" "_law_within_of" sWithin f fd) (mList : mg "list" = none) : FnOk P w K mg base CX0 1 f fd ["value"] (spPickL K partsQ) := by
  refine F.ok scWithin (fun vs H Q E h => ?_) (fun cdv A outer s H vs Q E hr h => ?_)
  · obtain ⟨_, _, _, rfl, _⟩ := h
    rfl
  obtain ⟨a, h, r, rfl, hT, few, len, q⟩ := h
  refine ⟨_, pss_cons (ps_if (pt_cmpR (r := rIn K false) op_in_seq (pe_ix (r := rIxT K) ix_tup (pv 0) pe_int (fun _ _ => rfl)) (pe_lst (pa_cons pe_str (pa_cons pe_str pa_nil))) (by with_unfolding_all rfl)) (pss_one (ps_ret (pe_lst (pa_cons (pe_ix (r := rIxT K) ix_tup (pv 0) pe_int (fun _ _ => rfl)) pa_nil)))) pss_nil)
    (pss_one (ps_ret (pe_ifExp (pt_cmpR (r := rIn K false) op_in_seq (pe_ix (r := rIxT K) ix_tup (pv 0) pe_int (fun _ _ => rfl)) (pe_lst (pa_cons pe_str (pa_cons pe_str (pa_cons pe_str pa_nil)))) (by with_unfolding_all rfl)) (pe_callTy (r := rLstOf K) call_list_of (by rfl) mList (by decide +kernel) (pa_cons (pe_slice (r := rSlT K) sl_tup (pv 0) (po_some pe_int) po_none) pa_nil)) (pe_lst pa_nil)))), ?_⟩
  refine headinL_read quansL rfl hT (by decide) fun H0 s0 => ?_
  have hT0 := sqT_same s0 hT
  cases c1 : decide (h ∈ quansL) with
  | true =>
    have l2 := len_quan len c1
    obtain ⟨x, y, rfl⟩ : ∃ x y, r = [x, y] := by
      match r, l2 with
      | [x, y], _ => exact ⟨x, y, rfl⟩
    refine iteT' rfl (one_at (k := 2) rfl hT0 rfl fun p H' s np e => q p H' (s0.trans s) (none_before s0 np) ?_)
    rw [e]
    unfold partsQ
    rw [show quanW h = true from c1]; rfl
  | false =>
    refine iteF' rfl (headinL_read jointsL rfl hT0 (by decide) fun H1 s1 => ?_)
    have hT1 := sqT_same s1 hT0
    have s01 := s0.trans s1
    cases c2 : decide (h ∈ jointsL) with
    | true =>
      refine iteT' rfl (list_from 1 rfl hT1 (by decide) (List.cons_ne_nil _ _) fun p H' s np e => q p H' (s01.trans s) (none_before s01 np) ?_)
      rw [e]
      unfold partsQ
      rw [show quanW h = false from c1, show jointW h = true from c2]; rfl
    | false =>
      refine iteF' rfl (empty_read (σ := []) fun p H' s np e => q p H' (s01.trans s) (none_before s01 np) ?_)
      rw [e]
      unfold partsQ
      rw [show quanW h = false from c1, show jointW h = false from c2]; rfl
end
end DQ

set_option Elab.async false
set_option linter.all false
set_option maxRecDepth 100000
set_option maxHeartbeats 1000000
namespace DQ
open PySem PySem.Spec PyProof.Rows L2
/-! ### is_formed, wrong_itself -/
abbrev sFormed : Stmt := topS 17
abbrev sWrong : Stmt := topS 18
theorem scFormed : FnScope ["value"] ["value"] (defScope sFormed) := ⟨rfl, rfl, rfl, by decide +kernel, rfl, by decide +kernel, by decide +kernel⟩
theorem scWrong : FnScope ["value", "around", "word"] ["value", "around"] (defScope sWrong) := ⟨rfl, rfl, rfl, by decide +kernel, rfl, by decide +kernel, by decide +kernel⟩
/-- the written table of lengths -/
structure Lens (K : PySem.W.Frag) (w : World) (d : Addr) : Prop where
  ex : ∃ es n, KDict K w d es n
  at_ : ∀ h n, lenW h = some n → ∃ t, PySem.W.nsIn K d h = some (some (.int (n : Nat) t))
  no : PySem.W.nsIn K d "maybe" = some none
def HeadOk (d : PyData) : Prop := ∀ h r, d = .tuple (.str h :: r) → h = "maybe" ∨ (lenW h).isSome = true
/-- word in a written dict -/
def rInKd (K : PySem.W.Frag) (d : Addr) : R2 := fun x y H Q => ∃ (z : Str) (r : Option Value), x = .str z ∧ y = .ref d ∧ PySem.W.nsIn K d z = some r ∧ Q (.bl r.isSome) H
theorem op_inKd {X : Cx} {K : PySem.W.Frag} {w : World} {d : Addr} (hk : X.K = K) (hw : X.w = w) (M : Lens K w d) : OpR X (compareOp .In) (rInKd K d) := by
  subst hk hw
  obtain ⟨es, n, D⟩ := M.ex
  exact op_in_kd D
theorem lenW_maybe : lenW "maybe" = none := by decide +kernel
section
variable {P : Program} {w : World} {K : PySem.W.Frag} {mg : Str → Option Value} {base : Heap}
def spFormed (K : PySem.W.Frag) : Sp := fun vs H Q _ => ∃ (v : V) (d : PyData), vs = [v] ∧ Dp K H v d ∧ HeadOk d ∧ Q (.bl (formQ d)) H
theorem ok_formed {f dL : Addr} {fd : FuncData} (F : Fun K "is_formed" "is_formed" sFormed f fd) (M : Lens K w dL) (mM : mg "LENGTHS" = some (.ref dL))
    (mI : mg "isinstance" = none) (mTuple : mg "tuple" = none) (mLen : mg "len" = none) (mStr : mg "str" = none) : FnOk P w K mg base CX0 1 f fd ["value"] (spFormed K) := by
  refine F.ok scFormed (fun vs H Q E h => ?_) (fun cdv A outer s H vs Q E hr h => ?_)
  · obtain ⟨_, _, rfl, _⟩ := h
    rfl
  obtain ⟨v, d, rfl, hd, kn, q⟩ := h
  refine ⟨_, (pss_cons (ps_if (PW.pt (pw_or (pt_not (pt_val (pe_callB (id := "isinstance") (r := rIsi K) call_isi (by rfl) mI (by decide +kernel) (pa_cons (pv 0) (pa_cons (pe_bltn (v := .ty "tuple") (by rfl) mTuple (by decide +kernel) rfl) pa_nil))))) (pw_or (pt_cmpR op_eq (pe_callB call_len_seq (by rfl) mLen PySem.boot_len (pa_cons (pv 0) pa_nil)) pe_int (nomark _)) (pw_or1 (pt_not (pt_val (pe_callB (id := "isinstance") (r := rIsi K) call_isi (by rfl) mI (by decide +kernel) (pa_cons (pe_ix (r := rIxT K) ix_tup (pv 0) pe_int (fun _ _ => rfl)) (pa_cons (pe_bltn (v := .ty "str") (by rfl) mStr (by decide +kernel) rfl) pa_nil))))))))) (pss_one (ps_ret pe_bl)) pss_nil)
     (pss_one (ps_ret (pe_and (pe_cmpR (r := rInKd K dL) (op_inKd rfl rfl M) (pe_ix (r := rIxT K) ix_tup (pv 0) pe_int (fun _ _ => rfl)) (pe_glob (v := .ref dL) (by rfl) mM rfl) (by rfl)) (pe_one (pe_cmpR op_eq (pe_callB call_len_seq (by rfl) mLen PySem.boot_len (pa_cons (pv 0) pa_nil)) (pe_ix (r := rIxD K w) ix_kdict (pe_glob (v := .ref dL) (by rfl) mM rfl) (pe_ix (r := rIxT K) ix_tup (pv 0) pe_int (fun _ _ => rfl)) (fun _ _ => rfl)) (nomark _))))))), ?_⟩
  have ty := dp_ty hd
  refine ⟨_, rfl, v, .ty "tuple", _, _, _, rfl, .ty "tuple", ty, kit_data (by simp) d, _, rfl, ?_⟩
  cases c1 : isT "tuple" d with
  | false =>
    refine iteT' rfl ?_
    have e : formQ d = false := by
      cases d with
      | tuple ds => exact absurd c1 (by simp only [isT, tyN]; decide)
      | _ => rfl
    rw [e] at q
    exact q
  | true =>
    refine iteF' rfl ?_
    cases hd with
    | @tup a xs ds hs ha =>
      have len := dpAll_len ha
      refine ⟨_, rfl, a, xs, rfl, .inr hs, rfl, _, rfl, ?_⟩
      by_cases z : xs.length = 0
      · refine iteT' (decide_eq_true (by rw [z]; rfl)) ?_
        obtain rfl := List.length_eq_zero_iff.mp (len ▸ z)
        exact q
      · refine iteF' (decide_eq_false (fun e => z (by injection e with e; omega))) ?_
        cases ha with
        | nil => exact absurd rfl z
        | @cons v0 vs0 d0 ds0 h0 r0 =>
          have ty0 := dp_ty h0
          refine ⟨_, rfl, a, _, 0, _, rfl, rfl, hs, atI_nat (j := 0) rfl, v0, .ty "str", _, _, _, rfl, .ty "str", ty0, kit_data (by simp) d0, _, rfl, ?_⟩
          cases c2 : isT "str" d0 with
          | false =>
            refine iteT' rfl ?_
            have e : formQ (.tuple (d0 :: ds0)) = false := by
              cases d0 with
              | str x => exact absurd c2 (by simp only [isT, tyN]; decide)
              | _ => rfl
            rw [e] at q
            exact q
          | true =>
            refine iteF' rfl ?_
            cases h0 with
            | str h =>
              have l0 := dpAll_len r0
              have el : formQ (.tuple (.str h :: ds0)) = decide (lenW h = some (ds0.length + 1)) := rfl
              rw [el] at q
              rcases kn h ds0 rfl with e | e
              · subst e
                refine ⟨_, rfl, a, _, 0, _, rfl, rfl, hs, atI_nat (j := 0) rfl, "maybe", none, rfl, rfl, M.no, _, rfl, ?_⟩
                refine iteF' rfl ?_
                rw [lenW_maybe] at q
                exact q
              · obtain ⟨n, hn⟩ := Option.isSome_iff_exists.mp e
                obtain ⟨t, ht⟩ := M.at_ h n hn
                obtain ⟨es, m, D⟩ := M.ex
                refine ⟨_, rfl, a, _, 0, _, rfl, rfl, hs, atI_nat (j := 0) rfl, h, _, rfl, rfl, ht, _, rfl, ?_⟩
                refine iteT' rfl ?_
                refine ⟨_, rfl, a, _, rfl, .inr hs, _, rfl, a, _, 0, _, rfl, rfl, hs, atI_nat (j := 0) rfl, dL, h, .int (n : Nat), rfl, rfl, ⟨es, m, _, D.at_, D.lit, ht, ⟨_, rfl⟩⟩, rfl, ?_⟩
                rw [hn] at q
                rw [show decide (V.int ((V.str h :: vs0).length : Nat) = V.int (n : Nat)) = decide (some n = some (ds0.length + 1)) from decide_eq_decide.mpr ⟨fun e => by injection e with e; rw [List.length_cons] at e; congr 1; omega, fun e => by injection e with e; rw [List.length_cons, l0, e]⟩]
                exact q
            | _ => exact absurd c2 (by simp only [isT, tyN]; decide)
    | _ => exact absurd c1 (by simp only [isT, tyN]; decide)
def optV : Option Str → V
  | none => .non
  | some x => .str x
theorem dpAll_words {H : Hp} {h : Str} {vs : List V} {ds : List PyData} (r : DpAll K H vs ds) : DpAll K H (wordsQ h vs) (wordsQ h ds) := by
  unfold wordsQ
  split
  · exact r
  · split
    · cases r with
      | nil => exact .nil
      | cons a b => exact .cons a .nil
    · exact .nil
theorem dpAll_drop {H : Hp} : ∀ {vs : List V} {ds : List PyData} (k : Nat), DpAll K H vs ds → DpAll K H (vs.drop k) (ds.drop k)
  | _, _, 0, r => r
  | _, _, _ + 1, .nil => .nil
  | _, _, k + 1, .cons _ r => dpAll_drop k r
theorem dpAll_parts {H : Hp} {h : Str} {vs : List V} {ds : List PyData} (r : DpAll K H vs ds) : DpAll K H (partsQ h vs) (partsQ h ds) := by
  unfold partsQ
  split
  · exact dpAll_drop 1 r
  · split
    · exact r
    · exact .nil
theorem lenW_le {h : Str} {n : Nat} (l : lenW h = some n) : n ≤ 4 := by
  unfold lenW at l
  split at l
  · injection l; omega
  · split at l
    · injection l; omega
    · split at l
      · injection l; omega
      · split at l
        · injection l; omega
        · cases l
theorem words_len {α : Type} {h : Str} {r : List α} : (wordsQ h r).length ≤ r.length := by
  unfold wordsQ
  split
  · exact Nat.le_refl _
  · split
    · rw [List.length_take]; omega
    · exact Nat.zero_le _
def spWrong (K : PySem.W.Frag) : Sp := fun vs H Q _ => ∃ (v : V) (r : Addr) (d : PyData) (ar : List Str), vs = [v, .ref r] ∧ Dp K H v d ∧ Fit d ∧ SqT K H r (ar.map V.str) ∧ ∀ H', Same H H' → Q (optV (whyQ d ar)) H'
theorem ok_wrong {f fF fW fI rQ : Addr} {fd dF dW dI : FuncData} (F : Fun K "wrong_itself" "wrong_itself" sWrong f fd) (GF : FnOk P w K mg base CX0 1 fF dF ["value"] (spFormed K)) (bF : Binds K dF ["value"] []) (kF : PySem.W.keepIn K (.ref fF) = true) (mF : mg "is_formed" = some (.ref fF))
    (GW : FnOk P w K mg base CX0 2 fW dW ["value"] (spIsWord K)) (bW : Binds K dW ["value"] []) (kW : PySem.W.keepIn K (.ref fW) = true) (mW : mg "is_word" = some (.ref fW))
    (GI : FnOk P w K mg base CX0 1 fI dI ["one"] (spPickL K wordsQ)) (bI : Binds K dI ["one"] []) (kI : PySem.W.keepIn K (.ref fI) = true) (mWi : mg "words_in" = some (.ref fI))
    (mQ : mg "QUANTIFIERS" = some (.ref rQ)) (eQ : ∀ H, SqT K H rQ (quansL.map V.str)) (mAll : mg "all" = none) : FnOk P w K mg base CX0 3 f fd ["value", "around"] (spWrong K) := by
  refine F.ok scWrong (fun vs H Q E h => ?_) (fun cdv A outer s H vs Q E hr h => ?_)
  · obtain ⟨_, _, _, _, rfl, _⟩ := h
    rfl
  obtain ⟨v, r, d, ar, rfl, hd, fit, hr2, q⟩ := h
  have nd := scWrong.nd
  refine ⟨_, pss_cons (ps_if (pt_not (pt_val (pe_call GF (hr.mono (by decide)) rfl mF kF bF .nil pass0 (pa_cons (pv 0) pa_nil)))) (pss_one (ps_ret pe_str)) pss_nil)
    (pss_cons (ps_if (pt_not (pt_val (pe_callB (cr_all rfl) (by rfl) mAll (by decide +kernel) (pa_cons (pe_lc (own := [("word", 2)]) (g := gName 2) (tt := tYes) rfl nd (pi_list (pe_call GI (hr.mono (by decide)) rfl mWi kI bI .nil pass0 (pa_cons (pv 0) pa_nil))) (blkOk_by (own := [("word", 2)]) (N := ["value", "around", "word"]) (sc := defScope sWrong) (by decide +kernel)) (fun _ _ _ _ _ => pg_name (i := 2) nd rfl (Or.inl rfl)) (fun _ _ _ _ _ => pts_nil)
      (fun _ _ _ _ _ => pe_call GW (hr.mono (by decide)) rfl mW kW bW .nil pass0 (pa_cons (pv 2) pa_nil))) pa_nil)))) (pss_one (ps_ret pe_str)) pss_nil)
    (pss_cons (ps_if (PW.pt (pw_and (pt_cmpR (r := rIn K false) op_in_seq (pe_ix (r := rIxT K) ix_tup (pv 0) pe_int (fun _ _ => rfl)) (pe_glob (v := .ref rQ) (by rfl) mQ rfl) (by rfl)) (pw_and1 (pt_cmpR (r := rIn K false) op_in_seq (pe_ix (r := rIxT K) ix_tup (pv 0) pe_int (fun _ _ => rfl)) (pv 1) (by rfl))))) (pss_one (ps_ret pe_str)) pss_nil)
    (pss_one (ps_ret pe_non)))), ?_⟩
  refine ⟨_, rfl, nil_read ⟨v, d, rfl, hd, fit.head, _, rfl, ?_⟩⟩
  cases c1 : formQ d with
  | false =>
    have e : whyQ d ar = some ("form" : Str) := by
      unfold formQ at c1
      split at c1
      · rename_i h' r'
        simp only [whyQ, if_neg (of_decide_eq_false c1)]
      · rename_i d' hd'
        unfold whyQ
        split
        · exact absurd rfl (hd' _ _)
        · rfl
    rw [e] at q
    exact iteT' rfl (q _ (Same.refl _))
  | true =>
    refine iteF' rfl ?_
    obtain ⟨h, ds, rfl, l⟩ : ∃ h ds, d = .tuple (.str h :: ds) ∧ lenW h = some (ds.length + 1) := by
      unfold formQ at c1
      split at c1
      · exact ⟨_, _, rfl, of_decide_eq_true c1⟩
      · cases c1
    cases hd with
    | @tup a xs _ hs ha =>
    cases ha with
    | @cons v0 vs0 _ _ h0 r0 =>
    cases h0
    have l0 := dpAll_len r0
    have le := lenW_le l
    have ew : whyQ (.tuple (.str h :: ds)) ar = if (wordsQ h ds).all wordQ then (if boundQ h ds ar then some ("bound" : Str) else none) else some ("word" : Str) := by simp only [whyQ, if_pos l]
    rw [ew] at q
    refine ⟨_, rfl, nil_read ⟨a, h, vs0, rfl, hs, by omega, by rw [l0]; exact l, fun p H1 s1 np e1 => ?_⟩⟩
    have al := dpAll_words (h := h) r0
    have lw := dpAll_len al
    have lw2 := words_len (h := h) (r := ds)
    refine ⟨p, rfl, ⟨_, SqL.of e1⟩, fun D nD => lc_bools (walk_list (K := K) (a := p) (xs := wordsQ h vs0)) ((wordsQ h ds).map wordQ) (by rw [List.length_map, lw]) (Nat.lt_of_le_of_lt (show (wordsQ h vs0).length ≤ 10000 by omega) (by decide)) nD (fun _ s2 => L2.Same.seq s2 (SqL.of e1)) (fun _ _ _ _ y => by rw [y.1]; exact fun _ _ h => h)
        (fun i v H2 H3 b hi hb s2 y R hR => ?_) (fun H2 s2 e2 => ?_) (fun _ _ _ _ _ m h => m _ _ h)⟩
    · obtain ⟨rfl, hv⟩ := y
      have hb' : ∃ e, (wordsQ h ds)[i]? = some e ∧ b = wordQ e := by
        rw [List.getElem?_map] at hb
        obtain ⟨x, hx, e⟩ := Option.map_eq_some_iff.mp hb
        exact ⟨x, hx, e.symm⟩
      obtain ⟨e, he, rfl⟩ := hb'
      have de := dp_same (s1.trans s2) _ _ (dpAll_get al hv he)
      refine ⟨rfl, _, rfl, nil_read ⟨v, rfl, ?_⟩⟩
      cases de with
      | str x => exact .inl ⟨x, rfl, fit.words _ _ rfl l x (List.mem_of_getElem? he), fun H4 s4 => hR _ s4⟩
      | non => exact .inr ⟨⟨_, .base .non, kit_data (K := K) (T := "str") (by simp) .none⟩, hR _ (Same.refl _)⟩
      | bl b => exact .inr ⟨⟨_, .base (.bl b), kit_data (K := K) (T := "str") (by simp) (.bool b)⟩, hR _ (Same.refl _)⟩
      | int j => exact .inr ⟨⟨_, .base (.int j), kit_data (K := K) (T := "str") (by simp) (.int j)⟩, hR _ (Same.refl _)⟩
      | lst g1 g2 => exact .inr ⟨⟨_, dp_ty (.lst g1 g2), kit_data (K := K) (T := "str") (by simp) (.list _)⟩, hR _ (Same.refl _)⟩
      | tup g1 g2 => exact .inr ⟨⟨_, dp_ty (.tup g1 g2), kit_data (K := K) (T := "str") (by simp) (.tuple _)⟩, hR _ (Same.refl _)⟩
      | dct g1 => exact .inr ⟨⟨_, dp_ty (.dct g1), kit_data (K := K) (T := "str") (by simp) (.dict [])⟩, hR _ (Same.refl _)⟩
    · refine nil_read ⟨D, _, rfl, SqL.of e2, ?_⟩
      rw [List.all_map]
      have s02 := s1.trans s2
      refine ⟨_, rfl, ?_⟩
      cases c2 : (wordsQ h ds).all wordQ with
      | false =>
        rw [c2] at q
        rw [show (wordsQ h ds).all (id ∘ wordQ) = false from c2]
        exact iteT' rfl (q _ s02)
      | true =>
        rw [c2] at q
        rw [show (wordsQ h ds).all (id ∘ wordQ) = true from c2]
        refine iteF' rfl ?_
        have hs2 := sqT_same s02 hs
        refine headin_read quansL rfl hs2 eQ ?_
        cases c3 : decide (h ∈ quansL) with
        | false =>
          refine iteF' rfl (iteF' rfl ?_)
          have e : boundQ h ds ar = false := by unfold boundQ; rw [show quanW h = false from c3]; rfl
          rw [e] at q
          exact q _ s02
        | true =>
          refine iteT' rfl ?_
          have l2 := len_quan l c3
          have l2' : ds.length = 2 := by omega
          obtain ⟨d1, d2, rfl⟩ : ∃ x y, ds = [x, y] := by
            match ds, l2' with
            | [x, y], _ => exact ⟨x, y, rfl⟩
          have ew2 : wordsQ h [d1, d2] = [d1] := by unfold wordsQ; rw [show quanW h = true from c3]; rcases (by simpa [quanW] using c3 : h = "some" ∨ h = "all") with e | e <;> (rw [e, show atomW _ = false by decide +kernel]; rfl)
          rw [ew2] at c2
          cases r0 with
          | @cons v1 _ _ _ g1 r1 =>
          cases g1 with
          | str x =>
            have eb : boundQ h [.str x, d2] ar = decide (x ∈ ar) := by unfold boundQ; rw [show quanW h = true from c3]; rfl
            rw [eb] at q
            refine ⟨_, rfl, a, _, 1, _, rfl, rfl, hs2, atI_nat (j := 1) rfl, _, rfl, r, _, rfl, .inr (sqT_same s02 hr2), rfl, flat_words ar, _, rfl, ?_⟩
            show if inV (V.str x) (ar.map V.str) = true then _ else _
            rw [inV_words]
            cases c4 : decide (x ∈ ar) with
            | true => rw [c4] at q; exact iteT' rfl (q _ s02)
            | false => rw [c4] at q; exact iteF' rfl (q _ s02)
          | _ => exact absurd c2 (by simp [wordQ])
end
end DQ

set_option Elab.async false
set_option linter.all false
set_option maxRecDepth 100000
set_option maxHeartbeats 1000000
namespace DQ
open PySem PySem.Spec PyProof.Rows L2
/-! ### what judging wants of the parts -/
theorem shaped_tup {ds : List PyData} (h : SeqAt.shaped (.tuple ds) = true) : ∀ d ∈ ds, SeqAt.shaped d = true := by
  have h' : (PyData.canLayAll0 ds && decide (PyData.depthAll ds + 1 ≤ 64)) = true := h
  rw [Bool.and_eq_true, decide_eq_true_eq] at h'
  obtain ⟨h1, h2⟩ := h'
  clear h
  induction ds with
  | nil => intro d hd; cases hd
  | cons x xs ih =>
    have g1 : (PyData.canLay0 x && PyData.canLayAll0 xs) = true := h1
    rw [Bool.and_eq_true] at g1
    have g2 : max (PyData.depth x) (PyData.depthAll xs) + 1 ≤ 64 := h2
    intro d hd
    rcases List.mem_cons.mp hd with rfl | hd
    · show (PyData.canLay0 d && decide (PyData.depth d ≤ 64)) = true
      rw [g1.1, decide_eq_true (by omega)]; rfl
    · exact ih g1.2 (by omega) d hd
theorem word_short {x : Str} (h : wordB x = true) : x.length ≤ 1000 := by
  have s : spelled x = true := by
    unfold wordB at h
    rw [Bool.and_eq_true] at h
    exact h.1
  unfold spelled at s
  simp only [Bool.and_eq_true, decide_eq_true_eq] at s
  omega
def Gn.good (g : Gn) : Prop := g.ok ∧ SeqAt.shaped g.d = true
theorem fit_of {g : Gn} (h : g.good) : Fit g.d := by
  obtain ⟨ok, sh⟩ := h
  cases g with
  | bad d => exact ok.1
  | tr b =>
    refine ⟨sh, fun h r e => ?_, fun h r e _ x hx => ?_⟩
    · injection e with e; injection e with e1 e2; injection e1 with e1; subst e1
      rw [lenW_tr]; exact .inr rfl
    · injection e with e; injection e with e1 e2; injection e1 with e1; subst e1; subst e2
      exact absurd hx (by rw [show wordsQ (trW b) ([] : List PyData) = [] by cases b <;> decide +kernel]; exact List.not_mem_nil)
  | mk m x =>
    refine ⟨sh, fun h r e => ?_, fun h r e _ y hy => ?_⟩
    · injection e with e; injection e with e1 e2; injection e1 with e1; subst e1
      exact .inr (by decide +kernel)
    · injection e with e; injection e with e1 e2; injection e1 with e1; subst e1; subst e2
      rw [show wordsQ "mark" [PyData.str m, .str x] = [.str m, .str x] by unfold wordsQ; rw [show atomW "mark" = true by decide +kernel]; rfl] at hy
      simp only [List.mem_cons, List.not_mem_nil, or_false, PyData.str.injEq] at hy
      rcases hy with rfl | rfl
      · exact word_short ok.1
      · exact word_short ok.2
  | lk c x y =>
    refine ⟨sh, fun h r e => ?_, fun h r e _ z hz => ?_⟩
    · injection e with e; injection e with e1 e2; injection e1 with e1; subst e1
      exact .inr (by decide +kernel)
    · injection e with e; injection e with e1 e2; injection e1 with e1; subst e1; subst e2
      rw [show wordsQ "link" [PyData.str c, .str x, .str y] = [.str c, .str x, .str y] by unfold wordsQ; rw [show atomW "link" = true by decide +kernel]; rfl] at hz
      simp only [List.mem_cons, List.not_mem_nil, or_false, PyData.str.injEq] at hz
      rcases hz with rfl | rfl | rfl
      · exact word_short ok.1
      · exact word_short ok.2.1
      · exact word_short ok.2.2
  | sm x y =>
    refine ⟨sh, fun h r e => ?_, fun h r e _ z hz => ?_⟩
    · injection e with e; injection e with e1 e2; injection e1 with e1; subst e1
      exact .inr (by decide +kernel)
    · injection e with e; injection e with e1 e2; injection e1 with e1; subst e1; subst e2
      rw [show wordsQ "same" [PyData.str x, .str y] = [.str x, .str y] by unfold wordsQ; rw [show atomW "same" = true by decide +kernel]; rfl] at hz
      simp only [List.mem_cons, List.not_mem_nil, or_false, PyData.str.injEq] at hz
      rcases hz with rfl | rfl
      · exact word_short ok.1
      · exact word_short ok.2
  | nt a =>
    refine ⟨sh, fun h r e => ?_, fun h r e _ z hz => ?_⟩
    · injection e with e; injection e with e1 e2; injection e1 with e1; subst e1
      exact .inr (by decide +kernel)
    · injection e with e; injection e with e1 e2; injection e1 with e1; subst e1; subst e2
      exact absurd hz (by rw [show wordsQ "not" [a.d] = [] by unfold wordsQ; rw [show atomW "not" = false by decide +kernel, show quanW "not" = false by decide +kernel]; rfl]; exact List.not_mem_nil)
  | cn b a c =>
    refine ⟨sh, fun h r e => ?_, fun h r e _ z hz => ?_⟩
    · injection e with e; injection e with e1 e2; injection e1 with e1; subst e1
      rw [lenW_cn]; exact .inr rfl
    · injection e with e; injection e with e1 e2; injection e1 with e1; subst e1; subst e2
      exact absurd hz (by rw [show wordsQ (cnW b) [a.d, c.d] = [] by unfold wordsQ; rw [show atomW (cnW b) = false by cases b <;> decide +kernel, show quanW (cnW b) = false by cases b <;> decide +kernel]; rfl]; exact List.not_mem_nil)
  | qu b x a =>
    refine ⟨sh, fun h r e => ?_, fun h r e _ z hz => ?_⟩
    · injection e with e; injection e with e1 e2; injection e1 with e1; subst e1
      rw [lenW_qu]; exact .inr rfl
    · injection e with e; injection e with e1 e2; injection e1 with e1; subst e1; subst e2
      rw [show wordsQ (quW b) [PyData.str x, a.d] = [.str x] by unfold wordsQ; rw [show atomW (quW b) = false by cases b <;> decide +kernel, show quanW (quW b) = true by cases b <;> decide +kernel]; rfl] at hz
      simp only [List.mem_cons, List.not_mem_nil, or_false, PyData.str.injEq] at hz
      rw [hz]
      exact word_short ok.1
theorem kids_good {e : En} (h : e.g.good) : ∀ k ∈ e.kids, k.g.good := by
  intro k hk
  refine ⟨kids_ok h.1 k hk, ?_⟩
  obtain ⟨g, p, ar⟩ := e
  have sh := h.2
  cases g with
  | nt a => rw [List.mem_singleton.mp hk]; exact shaped_tup sh _ (by simp)
  | cn b a c =>
    rcases List.mem_cons.mp hk with rfl | hk
    · exact shaped_tup sh _ (by simp)
    · rw [List.mem_singleton.mp hk]; exact shaped_tup sh _ (by simp)
  | qu b x a => rw [List.mem_singleton.mp hk]; exact shaped_tup sh _ (by simp)
  | _ => cases hk
/-- a tuple that is not wrong itself, by its word and what stands behind -/
theorem node_of {g : Gn} (ok : g.ok) {ar : List Str} (h : whyG g ar = none) : ∃ w r, g.d = .tuple (.str w :: r) ∧ lenW w = some (r.length + 1) ∧ partsQ w r = (kidsG g [] ar).map (fun k => k.g.d) ∧ (quanW w = true → ∃ b x a, g = .qu b x a ∧ w = quW b ∧ r = [.str x, a.d]) ∧ (quanW w = false → ∀ b x a, g ≠ .qu b x a) ∧ namesQ w r = (namesG g).map PyData.str := by
  have pq : ∀ {w : Str} {r : List PyData}, quanW w = false → jointW w = false → partsQ w r = [] := fun h1 h2 => by unfold partsQ; rw [h1, h2]; rfl
  have nq : ∀ {w : Str} {r : List PyData}, w ≠ "same" → atomW w = false → namesQ w r = [] := fun h1 h2 => by unfold namesQ; rw [if_neg h1, h2]; rfl
  cases g with
  | bad d =>
    have z : whyQ d ar = none := h
    rw [why_bad ok] at z
    split at z <;> cases z
  | tr b => exact ⟨trW b, [], rfl, lenW_tr b, by rw [pq (by cases b <;> decide +kernel) (by cases b <;> decide +kernel)]; rfl, fun h => absurd h (by cases b <;> decide +kernel), fun _ _ _ _ => Gn.noConfusion, by rw [nq (by cases b <;> decide +kernel) (by cases b <;> decide +kernel)]; rfl⟩
  | mk m x => exact ⟨"mark", _, rfl, (show lenW "mark" = some 3 by decide +kernel), by rw [pq (by decide +kernel) (by decide +kernel)]; rfl, fun h => absurd h (by decide +kernel), fun _ _ _ _ => Gn.noConfusion, by unfold namesQ; rw [if_neg (by decide +kernel), show atomW "mark" = true by decide +kernel]; rfl⟩
  | lk c x y => exact ⟨"link", _, rfl, (show lenW "link" = some 4 by decide +kernel), by rw [pq (by decide +kernel) (by decide +kernel)]; rfl, fun h => absurd h (by decide +kernel), fun _ _ _ _ => Gn.noConfusion, by unfold namesQ; rw [if_neg (by decide +kernel), show atomW "link" = true by decide +kernel]; rfl⟩
  | sm x y => exact ⟨"same", _, rfl, (show lenW "same" = some 3 by decide +kernel), by rw [pq (by decide +kernel) (by decide +kernel)]; rfl, fun h => absurd h (by decide +kernel), fun _ _ _ _ => Gn.noConfusion, by unfold namesQ; rw [if_pos rfl]; rfl⟩
  | nt a => exact ⟨"not", _, rfl, (show lenW "not" = some 2 by decide +kernel), by unfold partsQ; rw [show quanW "not" = false by decide +kernel, show jointW "not" = true by decide +kernel]; rfl, fun h => absurd h (by decide +kernel), fun _ _ _ _ => Gn.noConfusion, by rw [nq (by decide +kernel) (by decide +kernel)]; rfl⟩
  | cn b a c => exact ⟨cnW b, _, rfl, lenW_cn b, by unfold partsQ; rw [show quanW (cnW b) = false by cases b <;> decide +kernel, show jointW (cnW b) = true by cases b <;> decide +kernel]; rfl, fun h => absurd h (by cases b <;> decide +kernel), fun _ _ _ _ => Gn.noConfusion, by rw [nq (by cases b <;> decide +kernel) (by cases b <;> decide +kernel)]; rfl⟩
  | qu b x a => exact ⟨quW b, _, rfl, lenW_qu b, by unfold partsQ; rw [show quanW (quW b) = true by cases b <;> decide +kernel]; rfl, fun _ => ⟨b, x, a, rfl, rfl, rfl⟩, fun h => absurd h (by cases b <;> decide +kernel), by rw [nq (by cases b <;> decide +kernel) (by cases b <;> decide +kernel)]; rfl⟩
end DQ

set_option Elab.async false
set_option linter.all false
namespace DQ
open PySem PySem.Spec PyProof.Rows L2
theorem pa_starK {X : Cx} {K : PySem.W.Frag} {e : Expr} {es : List Expr} {p : Pos} {te : TE} {t : TA} (hk : X.K = K) (he : PE X e te) (hr : PA X es t) (hs : starEach (.Starred e p :: es) X.env = (true, eval e X.env) :: starEach es X.env := by rfl) : PA X (.Starred e p :: es) (StX.tStar K te t) := by
  subst hk
  exact StX.pa_star he hr hs
end DQ

set_option Elab.async false
set_option linter.all false
set_option maxRecDepth 100000
set_option maxHeartbeats 4000000
namespace DQ
open PySem PySem.Spec PyProof.Rows L2
/-! ### xs[::-1] of any list -/
def tRev (K : PySem.W.Frag) (te : TE) : TE := fun σ H Q => te σ H fun x H1 => ∃ a xs, x = .ref a ∧ SqL K H1 a xs ∧ ∀ p, H1 p = none → Q (.ref p) (upd H1 p (.lst xs.reverse))
theorem vals_reverse : ∀ {xs : List V} {us : List Value}, Vals xs us → Vals xs.reverse us.reverse
  | _, _, .nil => .nil
  | _, _, .cons r t => by
    rw [List.reverse_cons, List.reverse_cons]
    exact (vals_reverse t).append (.cons r .nil)
section
variable {X : Cx} {e : Expr} {te : TE} {pos p2 p3 p4 : Pos} {j}
theorem pe_rev (he : PE X e te) : PE X (.Subscript e (.Slice none none (some (.UnaryOp .USub (.Constant (.int 1) j p3) p4)) p2) pos) (tRev X.K te) := ⟨fun pins u σ G Q J ask => by
  apply Subscript_
  refine thn (he.run pins u σ G _ J ask) fun v u1 ⟨y, G1, J1, rel, a, xs, ey, sq, go⟩ => ?_
  subst ey
  cases (show v = Value.ref a from rel)
  apply wpAny_Slice
  rw [evalPart_none]
  apply wpAny_pure; apply wpAny_pure
  have part := (po_some (X := X) (pe_un (pos := p4) un_neg (pe_int (X := X) (i := 1) (j := j) (pos := p3)))).run pins u1 σ G1 (fun o H2 => o = some (-1) ∧ H2 = G1) J1 ⟨1, rfl, _, rfl, rfl, rfl⟩
  refine thn part fun vk u2 ⟨o, G2, J2, pk, eo, eG⟩ => ?_
  subst eo eG
  have J3 : L2.Inv X pins σ G2 { u2 with heap := u2.heap.push { cls := .type "slice", data := .fields #[.none, .none, vk] } } := J2.kept (t' := u2.toks) fun b ob q => Heap.get?_push_of_some _ q
  obtain ⟨its, r, pl, lz⟩ := J3.list sq
  have hs : ({ u2 with heap := u2.heap.push { cls := .type "slice", data := .fields #[.none, .none, vk] } } : Shared).heap.IsSliceOf u2.heap.objs.size .none .none vk := Heap.IsSliceOf.new ..
  show wpAny (model X.prog X.w) X.A (subscriptTail e _ (.ref a) (.ref u2.heap.objs.size)) (EP X pins σ Q) X.xe _
  refine tail_any (ops := [.ref a, .ref u2.heap.objs.size]) pl.isList.typeIs slot_list_getitem.lookup ?_ (by with_unfolding_all rfl)
  have lv : its.toArray.size ≤ sizeLine := by
    rw [List.size_toArray, ← r.length]
    exact lz
  refine wpAny_getItem_list_slice pl.isList hs .none .none pk (by simp) ?_ lv
  rw [PySem.W.krv_pick]
  exact ⟨.ref _, _, J3.laid (t' := u2.toks) (o := .lst xs.reverse) (fun b ob q => Heap.get?_push_of_some _ q) (Nat.le_refl _) ⟨by rw [List.length_reverse]; exact lz, _, 0, vals_reverse r, Heap.get?_push_size _ rfl⟩, rfl, go _ (J3.hok.fresh (Nat.le_refl _))⟩⟩
end
end DQ

set_option Elab.async false
set_option linter.all false
set_option maxRecDepth 100000
set_option maxHeartbeats 1000000
namespace DQ
open PySem PySem.Spec PyProof.Rows L2
/-! ### walked -/
abbrev sWalked : Stmt := topS 19
abbrev NWk : List Str := ["value", "seen", "waiting", "one", "place", "around", "why", "inner", "at", "part", "steps"]
theorem scWalked : FnScope NWk ["value"] (defScope sWalked) := ⟨rfl, rfl, rfl, by decide +kernel, rfl, by decide +kernel, by decide +kernel⟩
/-- tuples stay -/
def TupKeep (K : PySem.W.Frag) (H H' : Hp) : Prop := ∀ a xs, SqT K H a xs → SqT K H' a xs
theorem TupKeep.of_same {K : PySem.W.Frag} {H H' : Hp} (s : Same H H') : TupKeep K H H' := fun _ _ h => sqT_same s h
theorem TupKeep.trans {K : PySem.W.Frag} {H H' H'' : Hp} (s : TupKeep K H H') (t : TupKeep K H' H'') : TupKeep K H H'' := fun a xs h => t a xs (s a xs h)
theorem TupKeep.upd {K : PySem.W.Frag} {H : Hp} {p : Addr} {l : List V} {o : HO} (e : H p = some (.lst l)) : TupKeep K H (upd H p o) := fun a xs h => by
  rcases h with (h | ⟨o', h⟩) | h
  · exact .inl (.inl (by rw [upd_ne (fun z => by rw [z, e] at h; cases h)]; exact h))
  · exact .inl (.inr ⟨o', by rw [upd_ne (fun z => by rw [z, e] at h; cases h)]; exact h⟩)
  · exact .inr h
section
variable {K : PySem.W.Frag}
def pV (p : List Nat) : List V := p.map fun k => V.int (k : Nat)
def EntAt (K : PySem.W.Frag) (H0 H : Hp) (v : V) (e : En) : Prop := ∃ (a : Addr) (x : V) (pa ra : Addr), v = .ref a ∧ SqT K H a [x, .ref pa, .ref ra] ∧ Dp K H0 x e.g.d ∧ SqT K H pa (pV e.p) ∧ SqT K H ra (e.ar.map V.str)
theorem EntAt.keep {H0 H H' : Hp} {v : V} {e : En} (t : TupKeep K H H') (h : EntAt K H0 H v e) : EntAt K H0 H' v e := by
  obtain ⟨a, x, pa, ra, e1, h1, h2, h3, h4⟩ := h
  exact ⟨a, x, pa, ra, e1, t _ _ h1, h2, t _ _ h3, t _ _ h4⟩
theorem EntAt.up {H0 H1 H : Hp} {v : V} {e : En} (s : Same H0 H1) (h : EntAt K H0 H v e) : EntAt K H1 H v e := by
  obtain ⟨a, x, pa, ra, e1, h1, h2, h3, h4⟩ := h
  exact ⟨a, x, pa, ra, e1, h1, dp_same s _ _ h2, h3, h4⟩
def Ents (K : PySem.W.Frag) (H0 H : Hp) : List V → List En → Prop
  | [], [] => True
  | v :: vs, e :: es => EntAt K H0 H v e ∧ Ents K H0 H vs es
  | _, _ => False
theorem Ents.keep {H0 H H' : Hp} (t : TupKeep K H H') : ∀ {vs : List V} {es : List En}, Ents K H0 H vs es → Ents K H0 H' vs es
  | [], [], _ => True.intro
  | _ :: _, _ :: _, h => ⟨h.1.keep t, Ents.keep t h.2⟩
theorem Ents.up {H0 H1 H : Hp} (s : Same H0 H1) : ∀ {vs : List V} {es : List En}, Ents K H0 H vs es → Ents K H1 H vs es
  | [], [], _ => True.intro
  | _ :: _, _ :: _, h => ⟨h.1.up s, Ents.up s h.2⟩
theorem Ents.len {H0 H : Hp} : ∀ {vs : List V} {es : List En}, Ents K H0 H vs es → vs.length = es.length
  | [], [], _ => rfl
  | _ :: _, _ :: _, h => by rw [List.length_cons, List.length_cons, Ents.len h.2]
theorem Ents.app {H0 H : Hp} : ∀ {vs ws : List V} {es fs : List En}, Ents K H0 H vs es → Ents K H0 H ws fs → Ents K H0 H (vs ++ ws) (es ++ fs)
  | [], _, [], _, _, h => h
  | _ :: _, _, _ :: _, _, h, g => ⟨h.1, Ents.app h.2 g⟩
theorem Ents.one {H0 H : Hp} {v : V} {e : En} (h : EntAt K H0 H v e) : Ents K H0 H [v] [e] := ⟨h, True.intro⟩
theorem Ents.rev {H0 H : Hp} : ∀ {vs : List V} {es : List En}, Ents K H0 H vs es → Ents K H0 H vs.reverse es.reverse
  | [], [], _ => True.intro
  | _ :: _, _ :: _, h => by
    rw [List.reverse_cons, List.reverse_cons]
    exact (Ents.rev h.2).app (.one h.1)
theorem Ents.at {H0 H : Hp} : ∀ {vs : List V} {es : List En} {i : Nat} {v : V}, Ents K H0 H vs es → vs[i]? = some v → ∃ e, es[i]? = some e ∧ EntAt K H0 H v e
  | [], [], i, v, _, h => by simp at h
  | x :: _, e :: _, 0, v, g, h => by
    have : x = v := by simpa using h
    exact ⟨e, rfl, this ▸ g.1⟩
  | _ :: _, _ :: _, i + 1, v, g, h => Ents.at (i := i) g.2 (by simpa using h)
theorem Ents.inv {H0 H : Hp} {e : En} {es : List En} : ∀ {vs : List V}, Ents K H0 H vs (e :: es) → ∃ v ws, vs = v :: ws ∧ EntAt K H0 H v e ∧ Ents K H0 H ws es
  | v :: ws, h => ⟨v, ws, rfl, h.1, h.2⟩
theorem Ents.inv0 {H0 H : Hp} : ∀ {vs : List V}, Ents K H0 H vs [] → vs = []
  | [], _ => rfl
/-- the last of a list of entries -/
theorem Ents.last {H0 H : Hp} {e : En} : ∀ {es : List En} {vs : List V}, Ents K H0 H vs (es ++ [e]) → ∃ ws v, vs = ws ++ [v] ∧ Ents K H0 H ws es ∧ EntAt K H0 H v e
  | [], vs, h => by
    obtain ⟨v, ws, rfl, a, b⟩ := Ents.inv h
    obtain rfl := Ents.inv0 b
    exact ⟨[], v, rfl, True.intro, a⟩
  | x :: es, vs, h => by
    obtain ⟨u, us, rfl, a, b⟩ := Ents.inv h
    obtain ⟨ws, v, rfl, c, d⟩ := Ents.last b
    exact ⟨u :: ws, v, rfl, ⟨a, c⟩, d⟩
end
section
variable {P : Program} {w : World} {K : PySem.W.Frag} {mg : Str → Option Value} {base : Heap}
/-- all that is looked at, up to the first that is wrong itself, and why -/
def Seen (g : Gn) (S : List En) (why : Option Str) : Prop := (∃ T, S ++ T = preG g [] [] ∧ (why = none → T = [])) ∧ match why with
  | none => ∀ e ∈ S, e.why = none
  | some y => ∃ S0 e, S = S0 ++ [e] ∧ (∀ e ∈ S0, e.why = none) ∧ e.why = some y
def spWalked (K : PySem.W.Frag) : Sp := fun vs H Q _ => ∃ (v : V) (g : Gn), vs = [v] ∧ Dp K H v g.d ∧ g.good ∧ g.sz ≤ 1000 ∧ ∀ (p s : Addr) (xs : List V) (S : List En) (why : Option Str) (H' : Hp), Same H H' → H p = none → H s = none → SqT K H' p [.ref s, optV why] → H' s = some (.lst xs) → Ents K H H' xs S → Seen g S why → Q (.ref p) H'
theorem pre_short : ∀ (g : Gn) (p : List Nat) (ar : List Str), ∀ e ∈ preG g p ar, e.ar.length ≤ ar.length + g.sz ∧ e.p.length ≤ p.length + g.sz
  | .bad _, p, ar, e, h => by rw [List.mem_singleton.mp h]; exact ⟨Nat.le_add_right _ _, Nat.le_add_right _ _⟩
  | .tr _, p, ar, e, h => by rw [List.mem_singleton.mp h]; exact ⟨Nat.le_add_right _ _, Nat.le_add_right _ _⟩
  | .mk _ _, p, ar, e, h => by rw [List.mem_singleton.mp h]; exact ⟨Nat.le_add_right _ _, Nat.le_add_right _ _⟩
  | .lk _ _ _, p, ar, e, h => by rw [List.mem_singleton.mp h]; exact ⟨Nat.le_add_right _ _, Nat.le_add_right _ _⟩
  | .sm _ _, p, ar, e, h => by rw [List.mem_singleton.mp h]; exact ⟨Nat.le_add_right _ _, Nat.le_add_right _ _⟩
  | .nt a, p, ar, e, h => by
    rcases List.mem_cons.mp h with rfl | h
    · exact ⟨Nat.le_add_right _ _, Nat.le_add_right _ _⟩
    · have := pre_short a _ _ e h
      simp only [Gn.sz, List.length_append, List.length_singleton] at this ⊢; omega
  | .cn b a c, p, ar, e, h => by
    rcases List.mem_cons.mp h with rfl | h
    · exact ⟨Nat.le_add_right _ _, Nat.le_add_right _ _⟩
    · rcases List.mem_append.mp h with h | h
      · have := pre_short a _ _ e h
        simp only [Gn.sz, List.length_append, List.length_singleton] at this ⊢; omega
      · have := pre_short c _ _ e h
        simp only [Gn.sz, List.length_append, List.length_singleton] at this ⊢; omega
  | .qu b x a, p, ar, e, h => by
    rcases List.mem_cons.mp h with rfl | h
    · exact ⟨Nat.le_add_right _ _, Nat.le_add_right _ _⟩
    · have := pre_short a _ _ e h
      simp only [Gn.sz, List.length_append, List.length_singleton] at this ⊢; omega
/-- a quantifier's name -/
def nameG : Gn → Str
  | .qu _ x _ => x
  | _ => ""
def lenAt (H : Hp) (a : Addr) : Nat := match H a with
  | some (.lst xs) => xs.length
  | _ => 0
theorem lenAt_of {H : Hp} {a : Addr} {xs : List V} (h : H a = some (.lst xs)) : lenAt H a = xs.length := by unfold lenAt; rw [h]
theorem pre_pos (e : En) : 1 ≤ e.pre.length := by rw [pre_eq]; simp
theorem flat_len : ∀ W : List En, W.length ≤ (W.flatMap En.pre).length
  | [] => Nat.le_refl _
  | e :: W => by
    have := pre_pos e
    have := flat_len W
    rw [List.flatMap_cons, List.length_append, List.length_cons]
    omega
theorem kids_len (e : En) : e.kids.length ≤ 2 := by
  obtain ⟨g, p, ar⟩ := e
  cases g <;> simp [En.kids, kidsG]
theorem kid_at {g : Gn} {p : List Nat} {ar : List Str} {k : Nat} {e : En} (h : (kidsG g p ar)[k]? = some e) : e.p = p ++ [k] ∧ (∃ e', (kidsG g [] [])[k]? = some e' ∧ e'.g = e.g) ∧ (∀ b x a, g = .qu b x a → e.ar = ar ++ [x]) ∧ ((∀ b x a, g ≠ .qu b x a) → e.ar = ar) := by
  cases g with
  | nt a =>
    match k, h with
    | 0, h => cases h; exact ⟨rfl, ⟨_, rfl, rfl⟩, fun b x a e => (Gn.noConfusion e), fun _ => rfl⟩
    | k + 1, h => simp [kidsG] at h
  | cn b a c =>
    match k, h with
    | 0, h => cases h; exact ⟨rfl, ⟨_, rfl, rfl⟩, fun b x a e => (Gn.noConfusion e), fun _ => rfl⟩
    | 1, h => cases h; exact ⟨rfl, ⟨_, rfl, rfl⟩, fun b x a e => (Gn.noConfusion e), fun _ => rfl⟩
    | k + 2, h => simp [kidsG] at h
  | qu b x a =>
    match k, h with
    | 0, h => cases h; exact ⟨rfl, ⟨_, rfl, rfl⟩, fun b x a e => by cases e; rfl, fun n => absurd rfl (n b x a)⟩
    | k + 1, h => simp [kidsG] at h
  | _ => simp [kidsG] at h
theorem ok_walked {f fW fP rQ : Addr} {fd dW dP : FuncData} (F : Fun K "walked" "walked" sWalked f fd) (GW : FnOk P w K mg base CX0 3 fW dW ["value", "around"] (spWrong K)) (bW : Binds K dW ["value", "around"] []) (kW : PySem.W.keepIn K (.ref fW) = true) (mW : mg "wrong_itself" = some (.ref fW))
    (GP : FnOk P w K mg base CX0 1 fP dP ["one"] (spPickL K partsQ)) (bP : Binds K dP ["one"] []) (kP : PySem.W.keepIn K (.ref fP) = true) (mP : mg "parts" = some (.ref fP))
    (mQ : mg "QUANTIFIERS" = some (.ref rQ)) (eQ : ∀ H, SqT K H rQ (quansL.map V.str)) (mEnum : mg "enumerate" = none) : FnOk P w K mg base CX0 4 f fd ["value"] (spWalked K) := by
  refine F.ok scWalked (fun vs H Q E h => ?_) (fun cdv A outer s H vs Q E hr h => ?_)
  · obtain ⟨_, _, rfl, _⟩ := h
    rfl
  obtain ⟨v, g, rfl, hd, good, size, q⟩ := h
  have nd := scWalked.nd
  refine ⟨_, (pss_cons (ps_set (i := 1) nd rfl (.inl rfl) (pe_lst pa_nil))
     (pss_cons (ps_set (i := 2) nd rfl (.inl rfl) (pe_lst (pa_cons (pe_tup (pa_cons (pv 0) (pa_cons (pe_tup pa_nil) (pa_cons (pe_tup pa_nil) pa_nil)))) pa_nil)))
     (pss_cons (ps_while PassesOwn.never (pt_truth (pv 2) (fun _ => rfl)) (pss_cons (ps_asg (pe_bm0 PySem.F.plainAttrs_list PySem.F.slot_list_pop PySem.F.type_list_pop mt_pop (pv 2)) (pg_tup rfl (pgs_cons (pg_name (i := 3) nd rfl (.inl rfl)) (pgs_cons (pg_name (i := 4) nd rfl (.inr rfl)) (pgs_cons (pg_name (i := 5) nd rfl (.inl rfl)) pgs_nil))))) (pss_cons (ps_expr (pe_bm PySem.F.plainAttrs_list PySem.F.slot_list_append PySem.F.type_list_append mt_append (pv 1) (pa_cons (pe_tup (pa_cons (pv 3) (pa_cons (pv 4) (pa_cons (pv 5) pa_nil)))) pa_nil))) (pss_cons (ps_set (i := 6) nd rfl (.inl rfl) (pe_call GW (hr.mono (by decide)) rfl mW kW bW .nil pass0 (pa_cons (pv 3) (pa_cons (pv 5) pa_nil)))) (pss_cons (ps_if (pt_cmpR op_notN (pv 6) pe_non (nomark _)) (pss_one (ps_ret (pe_tup (pa_cons (pv 1) (pa_cons (pv 6) pa_nil))))) pss_nil) (pss_cons (ps_set (i := 7) nd rfl (.inr rfl) (pe_ifExp (pt_cmpR (r := rIn K false) op_in_seq (pe_ix (r := rIxT K) ix_tup (pv 3) pe_int (fun _ _ => rfl)) (pe_glob (v := .ref rQ) (by rfl) mQ rfl) (by rfl)) (pe_tup (pa_starK (K := K) rfl (pv 5) (pa_cons (pe_ix (r := rIxT K) ix_tup (pv 3) pe_int (fun _ _ => rfl)) pa_nil))) (pv 5))) (pss_cons (ps_setLc (i := 10) (own := [("at", 8), ("part", 9)]) (g := gTup K 2 (gCons (gName 8) (gCons (gName 9) gNil))) (tt := tYes) rfl nd rfl rfl (sw_true rfl rfl rfl (by decide +kernel)) (pi_enum (by rfl) mEnum (pa_cons (pe_call GP (hr.mono (by decide)) rfl mP kP bP .nil pass0 (pa_cons (pv 3) pa_nil)) pa_nil)) (blkOk_by (own := [("at", 8), ("part", 9)]) (N := NWk) (sc := defScope sWalked) (by decide +kernel)) (fun _ _ _ _ _ => pg_tup rfl (pgs_cons (pg_name (i := 8) nd rfl (Or.inl rfl)) (pgs_cons (pg_name (i := 9) nd rfl (Or.inl rfl)) pgs_nil))) (fun _ _ _ _ _ => pts_nil) (fun _ _ _ _ _ => (pe_tup (pa_cons (pv 9) (pa_cons (pe_tup (pa_starK (K := K) rfl (pv 4) (pa_cons (pv 8) pa_nil))) (pa_cons (pv 7) pa_nil)))))) (pss_one (ps_expr (pe_bm PySem.F.plainAttrs_list PySem.F.slot_list_extend PySem.F.type_list_extend mt_extend (pv 2) (pa_cons (pe_rev (pv 10)) pa_nil)))))))))))
     (pss_one (ps_ret (pe_tup (pa_cons (pv 1) (pa_cons pe_non pa_nil)))))))), ?_⟩
  -- seen, waiting
  refine seq_te (fun y H' => ∃ sA, y = .ref sA ∧ Same H H' ∧ H sA = none ∧ H' sA = some (.lst [])) (fun R hR => ⟨Nat.zero_le _, fun sA nS => hR _ _ ⟨sA, rfl, same_new nS, nS, upd_same⟩⟩) fun y H1 ⟨sA, ey, s1, nS, e1⟩ => ?_
  subst ey
  refine seq_te (fun y H' => ∃ wA t0 p0 r0, y = .ref wA ∧ Same H1 H' ∧ H1 wA = none ∧ H' wA = some (.lst [.ref t0]) ∧ H' t0 = some (.tup [v, .ref p0, .ref r0]) ∧ H' p0 = some (.tup []) ∧ H' r0 = some (.tup [])) (fun R hR => ?_) fun y H5 ⟨wA, t0, p0, r0, ey, s15, nW1, e5, e4, e2, e3⟩ => ?_
  · refine ⟨_, rfl, Nat.zero_le _, fun p0 np0 => ⟨Nat.zero_le _, fun r0 nr0 => ⟨by show 3 ≤ sizeLine; decide, fun t0 nt0 => ⟨by show 1 ≤ sizeLine; decide, fun wA nW => ?_⟩⟩⟩⟩
    have s2 := same_new np0 (o := .tup [])
    have e2 : L2.upd H1 p0 (.tup []) p0 = some (.tup []) := upd_same
    generalize L2.upd H1 p0 (.tup []) = H2 at *
    have s3 := same_new nr0 (o := .tup [])
    have e3 : L2.upd H2 r0 (.tup []) r0 = some (.tup []) := upd_same
    generalize L2.upd H2 r0 (.tup []) = H3 at *
    have s4 := same_new nt0 (o := .tup [v, .ref p0, .ref r0])
    have e4 : L2.upd H3 t0 (.tup [v, .ref p0, .ref r0]) t0 = some (.tup [v, .ref p0, .ref r0]) := upd_same
    generalize L2.upd H3 t0 (.tup [v, .ref p0, .ref r0]) = H4 at *
    have s5 := same_new nW (o := .lst [V.ref t0])
    exact hR _ _ ⟨wA, t0, p0, r0, rfl, ((s2.trans s3).trans s4).trans s5, none_before ((s2.trans s3).trans s4) nW, upd_same, s5 _ _ e4, s5 _ _ (s4 _ _ (s3 _ _ e2)), s5 _ _ (s4 _ _ e3)⟩
  subst ey
  have nwA : H wA = none := none_before s1 nW1
  have e15 : H5 sA = some (.lst []) := s15 _ _ e1
  have neq : sA ≠ wA := fun z => by
    rw [z, nW1] at e1; cases e1
  have en0 : EntAt K H H5 (.ref t0) ⟨g, [], []⟩ := ⟨t0, v, p0, r0, rfl, SqT.of e4, hd, SqT.of e2, SqT.of e3⟩
  show tSeq (tWhile _ _) _ _ [some v, some (.ref sA), some (.ref wA), none, none, none, none, none, none, none, none] H5
  refine while_by (fun σ' H' => ∃ (S W : List En) (xs ws : List V) (o3 o4 o5 o6 o7 o8 o9 o10 : Option V), σ' = [some v, some (.ref sA), some (.ref wA), o3, o4, o5, o6, o7, o8, o9, o10] ∧ Same H H' ∧ H' sA = some (.lst xs) ∧ Ents K H H' xs S ∧ H' wA = some (.lst ws) ∧ Ents K H H' ws W.reverse ∧ S ++ W.flatMap En.pre = preG g [] [] ∧ (∀ e ∈ S, e.why = none) ∧ ∀ e ∈ W, e.g.good)
    (fun _ H' => 1001 - lenAt H' sA) ⟨[], [⟨g, [], []⟩], [], [.ref t0], none, none, none, none, none, none, none, none, rfl, s1.trans s15, e15, True.intro, e5, ⟨en0, True.intro⟩, by simp [En.pre], fun e h => (by cases h), fun e h => by rw [List.mem_singleton.mp h]; exact good⟩ (fun σ' H6 hP => ?_) fun σ' H' Q1 Q2 h hc => ?_
  · obtain ⟨S, W, xs, ws, o3, o4, o5, o6, o7, o8, o9, o10, rfl, sm, es, hS, ew, hW, eqn, fine, goods⟩ := hP
    have lS := hS.len
    have total : S.length + (W.flatMap En.pre).length = g.sz := by rw [← pre_len g [] [], ← eqn, List.length_append]
    cases W with
    | nil =>
      obtain rfl := Ents.inv0 hW
      refine ⟨_, rfl, false, .inl ⟨[], SqL.of ew, rfl⟩, iteF' rfl ?_⟩
      refine ⟨_, rfl, by show 2 ≤ sizeLine; decide, fun p np => ?_⟩
      have sp := same_new np (o := .tup [V.ref sA, .non])
      exact q p sA xs S none _ (sm.trans sp) (none_before sm np) nS (SqT.of upd_same) (sp _ _ es) (hS.keep (.of_same sp)) ⟨⟨[], by simpa using eqn, fun _ => rfl⟩, fine⟩
    | cons e W =>
      rw [List.reverse_cons] at hW
      obtain ⟨ws, ve, rfl, hWa, he⟩ := hW.last
      clear hW
      have goode := goods e List.mem_cons_self
      rw [List.flatMap_cons, List.length_append, pre_eq, List.length_cons] at total
      refine ⟨_, rfl, true, .inl ⟨_, SqL.of ew, by simp⟩, iteT' rfl ?_⟩
      obtain ⟨a, x, pa, ra, rfl, ha, dx, hpa, hra⟩ := he
      refine seq_any (fun σ2 H' => σ2 = [some v, some (.ref sA), some (.ref wA), some x, some (.ref pa), some (.ref ra), o6, o7, o8, o9, o10] ∧ Same H H' ∧ H' sA = some (.lst xs) ∧ H' wA = some (.lst ws) ∧ TupKeep K H6 H') (fun D' rt' nx' => ?_) fun σ2 H7 ⟨eσ, sm1, es1, ew1, t1⟩ => ?_
      · refine ⟨_, rfl, .inl ⟨rfl, _, SqL.of ew⟩, wA, _, .ref a, rfl, rfl, ew, by simp, ?_⟩
        rw [List.dropLast_concat]
        have t1 := TupKeep.upd (K := K) (o := .lst ws) ew
        refine ⟨a, _, rfl, t1 _ _ ha, rfl, _, _, rfl, _, _, rfl, _, _, rfl, rfl, ?_⟩
        exact nx' _ _ ⟨rfl, same_upd sm nwA, by rw [upd_ne neq]; exact es, upd_same, t1⟩
      subst eσ
      have hS := hS.keep t1
      have hWb := hWa.keep t1
      clear hWa
      have ha := t1 _ _ ha
      have hpa := t1 _ _ hpa
      have hra := t1 _ _ hra
      -- seen.append
      refine seq_any (fun σ2 H' => ∃ tp, σ2 = [some v, some (.ref sA), some (.ref wA), some x, some (.ref pa), some (.ref ra), o6, o7, o8, o9, o10] ∧ Same H H' ∧ TupKeep K H7 H' ∧ H' sA = some (.lst (xs ++ [.ref tp])) ∧ EntAt K H H' (.ref tp) e ∧ H' wA = some (.lst ws)) (fun D' rt' nx' => ?_) fun σ2 H8 ⟨tp, eσ, sm8, t8, es8, en8, ew8⟩ => ?_
      · refine ⟨_, rfl, .inl ⟨rfl, _, SqL.of es1⟩, _, rfl, _, rfl, _, rfl, by show 3 ≤ sizeLine; decide, fun tp ntp => ?_⟩
        have s8 := same_new ntp (o := .tup [x, .ref pa, .ref ra])
        have e8 : L2.upd H7 tp (.tup [x, .ref pa, .ref ra]) tp = some (.tup [x, .ref pa, .ref ra]) := upd_same
        generalize L2.upd H7 tp (.tup [x, .ref pa, .ref ra]) = H8 at *
        have t8 := (TupKeep.of_same (K := K) s8).trans (.upd (o := .lst (xs ++ [V.ref tp])) (s8 _ _ es1))
        refine ⟨sA, xs, .ref tp, rfl, rfl, s8 _ _ es1, by rw [sizeLine_eq]; omega, nx' _ _ ⟨tp, rfl, same_upd (sm1.trans s8) nS, t8, upd_same, ⟨tp, x, pa, ra, rfl, .inl (.inl ?_), dx, t8 _ _ hpa, t8 _ _ hra⟩, ?_⟩⟩
        · rw [upd_ne (fun z => by rw [z, s8 _ _ es1] at e8; cases e8)]; exact e8
        · rw [upd_ne (fun z => neq z.symm)]; exact s8 _ _ ew1
      subst eσ
      have hS8 := (hS.keep t8).app (.one en8)
      have hW := hWb.keep t8
      clear hWb
      have ha := t8 _ _ ha
      have hpa := t8 _ _ hpa
      have hra := t8 _ _ hra
      -- why
      refine seq_te (fun y H' => y = optV e.why ∧ Same H8 H') (fun R hR => ⟨_, rfl, _, rfl, nil_read (show spWrong K [x, .ref ra] H8 R E0 from ⟨x, ra, e.g.d, e.ar, rfl, dp_same sm8 _ _ dx, fit_of goode, hra, fun H' s' => hR _ _ ⟨by rw [why_of goode.1]; rfl, s'⟩⟩)⟩) fun y H9 ⟨ey, s9⟩ => ?_
      subst ey
      show tSeq (tIfS _ _ _) _ _ [some v, some (.ref sA), some (.ref wA), some x, some (.ref pa), some (.ref ra), some (optV e.why), o7, o8, o9, o10] H9
      have eqn' : S ++ [e] ++ (e.kids.flatMap En.pre ++ W.flatMap En.pre) = preG g [] [] := by
        rw [← eqn, List.flatMap_cons, pre_eq]; simp
      refine seq_any (fun σ2 H' => σ2 = [some v, some (.ref sA), some (.ref wA), some x, some (.ref pa), some (.ref ra), some (optV e.why), o7, o8, o9, o10] ∧ H' = H9 ∧ e.why = none) (fun D' rt' nx' => ?_) fun σ2 H10 ⟨eσ, eH, ewy⟩ => ?_
      · cases hy : e.why with
        | none => exact ⟨_, rfl, rfl, _, rfl, iteF' rfl (nx' _ _ ⟨by rw [hy], rfl, hy⟩)⟩
        | some y =>
          refine ⟨_, rfl, rfl, _, rfl, iteT' rfl ⟨_, rfl, _, rfl, by show 2 ≤ sizeLine; decide, fun p np => ?_⟩⟩
          rw [rt']
          have sp := same_new np (o := .tup [V.ref sA, .str y])
          have sm9 := sm8.trans s9
          exact q p sA _ (S ++ [e]) (some y) _ (sm9.trans sp) (none_before sm9 np) nS (SqT.of upd_same) (sp _ _ (s9 _ _ es8)) (hS8.keep (.of_same (s9.trans sp))) ⟨⟨_, eqn', fun z => by cases z⟩, S, e, rfl, fine, hy⟩
      subst eσ
      subst eH
      -- inner
      have inPre : e ∈ preG g [] [] := by rw [← eqn]; exact List.mem_append_right _ (List.mem_flatMap.mpr ⟨e, List.mem_cons_self, by rw [pre_eq]; exact List.mem_cons_self⟩)
      obtain ⟨lar, lpl⟩ := pre_short g [] [] e inPre
      have lar : e.ar.length ≤ 1000 := by simp at lar; omega
      have lpl : e.p.length ≤ 1000 := by simp at lpl; omega
      obtain ⟨wd, rs, ed, lw, parts, qyes, qno, _⟩ := node_of goode.1 (ar := e.ar) ewy
      rw [ed] at dx
      cases dx with
      | @tup ax vx _ hx rx =>
      cases rx with
      | @cons v0 vr _ _ g0 rr =>
      cases g0
      have s19 := sm8.trans s9
      have hx10 := sqT_same s19 hx
      have lrr := dpAll_len rr
      have le4 := lenW_le lw
      refine seq_te (fun y H' => ∃ ri, y = .ref ri ∧ Same H10 H' ∧ SqT K H' ri ((if quanW wd = true then e.ar ++ [nameG e.g] else e.ar).map V.str)) (fun R hR => ?_) fun y H11 ⟨ri, ey, s11, hri⟩ => ?_
      · refine headin_read quansL rfl hx10 eQ ?_
        cases c1 : decide (wd ∈ quansL) with
        | true =>
          obtain ⟨b, z, g', eg, _, er⟩ := qyes c1
          subst er
          cases rr with
          | @cons v1 _ _ _ g1 _ =>
          cases g1
          refine iteT' rfl ⟨_, rfl, ra, _, rfl, .inl (sqT_same s9 hra), _, rfl, ax, _, 1, _, rfl, rfl, hx10, atI_nat (j := 1) rfl, ?_⟩
          refine nil_read ⟨by rw [List.length_append, List.length_map, sizeLine_eq]; show _ + 1 ≤ _; omega, fun ri nri => hR _ _ ⟨ri, rfl, same_new nri, SqT.of ?_⟩⟩
          rw [upd_same, if_pos (show quanW wd = true from c1), eg, List.map_append]; rfl
        | false => exact iteF' rfl ⟨_, rfl, hR _ _ ⟨ra, rfl, Same.refl _, by rw [show quanW wd = false from c1]; exact sqT_same s9 hra⟩⟩
      subst ey
      have s1B := s19.trans s11
      have hx11 := sqT_same s11 hx10
      have al := dpAll_parts (h := wd) rr
      have lal := dpAll_len al
      have kl : (partsQ wd rs).length = e.kids.length := by
        rw [parts, List.length_map]
        show _ = (kidsG e.g e.p e.ar).length
        cases e.g <;> rfl
      have k2 := kids_len e
      have hpa11 := sqT_same s11 (sqT_same s9 hpa)
      refine seq_te (fun y H' => ∃ D acc, y = .ref D ∧ Same H11 H' ∧ H' D = some (.lst acc) ∧ Ents K H H' acc e.kids) (fun R hR => ?_) fun y H12 ⟨D, acc, ey, s12, eD, hK⟩ => ?_
      · refine ⟨.ref ax, rfl, nil_read (show spPickL K partsQ [.ref ax] H11 _ E0 from ⟨ax, wd, vr, rfl, hx11, by omega, by rw [lrr]; exact lw, fun p H12 s12 np e12 => nil_read ⟨p, _, rfl, SqL.of e12, fun D nD => ?_⟩⟩)⟩
        refine lc_it (walk_enum (K := K) (a := p) (xs := partsQ wd vr)) (fun i H' => Same H12 H' ∧ ∃ acc, H' D = some (.lst acc) ∧ acc.length ≤ i ∧ Ents K H H' acc (e.kids.take i)) ⟨same_new nD, [], upd_same, Nat.le_refl _, by rw [List.take_zero]; exact True.intro⟩ (fun i H' _ pv => L2.Same.seq pv.1 (SqL.of e12)) (fun i z H' H'' hi pv y => ?_) fun H' pv => ?_
        · obtain ⟨sK, acc, eD, lacc, hacc⟩ := pv
          obtain ⟨T, x1, x2, rfl, nT, rfl, e1, e2⟩ := y
          injection e1 with e1
          subst e1
          have sT := same_new nT (o := .tup [V.int (i : Nat), x2])
          refine ⟨T, _, rfl, SqT.of upd_same, rfl, _, _, rfl, _, _, rfl, rfl, rfl, ?_⟩
          have eD1 := sT _ _ eD
          have hacc1 := hacc.keep (.of_same sT)
          have hpa1 := sqT_same ((s12.trans sK).trans sT) hpa11
          have hri1 := sqT_same ((s12.trans sK).trans sT) hri
          have sK1 := sK.trans sT
          generalize L2.upd H' T (.tup [V.int (i : Nat), x2]) = H13 at *
          refine ⟨x2, rfl, .ref pa, rfl, pa, pV e.p, rfl, .inl hpa1, .int (i : Nat), rfl, nil_read ⟨by rw [List.length_append, sizeLine_eq]; show (pV e.p).length + 1 ≤ _; unfold pV; rw [List.length_map]; omega, fun pp npp => ⟨.ref ri, rfl, by show 3 ≤ sizeLine; decide, fun tp ntp => ?_⟩⟩⟩
          have sa := same_new npp (o := .tup (pV e.p ++ [V.int (i : Nat)]))
          have ea : L2.upd H13 pp (.tup (pV e.p ++ [V.int (i : Nat)])) pp = some (.tup (pV e.p ++ [V.int (i : Nat)])) := upd_same
          generalize L2.upd H13 pp (.tup (pV e.p ++ [V.int (i : Nat)])) = H14 at *
          have sb := same_new ntp (o := .tup [x2, .ref pp, .ref ri])
          have eb : L2.upd H14 tp (.tup [x2, .ref pp, .ref ri]) tp = some (.tup [x2, .ref pp, .ref ri]) := upd_same
          generalize L2.upd H14 tp (.tup [x2, .ref pp, .ref ri]) = H15 at *
          have eD2 := sb _ _ (sa _ _ eD1)
          have tk : TupKeep K H15 (L2.upd H15 D (.lst (acc ++ [V.ref tp]))) := .upd eD2
          have hik : i < e.kids.length := by rw [← kl, ← lal]; exact hi
          have hk : e.kids[i]? = some e.kids[i] := List.getElem?_eq_getElem hik
          obtain ⟨kp, ⟨e', he', eg'⟩, ka, kb⟩ := kid_at (g := e.g) (p := e.p) (ar := e.ar) hk
          have hdd : (partsQ wd rs)[i]? = some (e.kids[i]).g.d := by
            rw [parts, List.getElem?_map]
            have : (kidsG e.g [] e.ar)[i]?.map (fun k => k.g.d) = (kidsG e.g [] [])[i]?.map (fun k => k.g.d) := by cases e.g <;> (match i with | 0 => rfl | 1 => rfl | i + 2 => rfl)
            rw [this, he', ← eg']; rfl
          refine ⟨acc, eD2, by have := sizeLine_eq; omega, ?_, _, upd_same, by rw [List.length_append]; show _ + 1 ≤ _; omega, ?_⟩
          · exact same_upd ((sK1.trans sa).trans sb) nD
          · rw [take_next hk]
            refine ((hacc1.keep (.of_same (sa.trans sb))).keep tk).app (.one ⟨tp, x2, pp, ri, rfl, tk _ _ (SqT.of eb), dpAll_get al e2 hdd, ?_, ?_⟩)
            · rw [kp]
              refine tk _ _ ?_
              have : pV (e.p ++ [i]) = pV e.p ++ [V.int (i : Nat)] := by unfold pV; rw [List.map_append]; rfl
              rw [this]
              exact SqT.of (sb _ _ ea)
            · refine tk _ _ ?_
              have : e.kids[i].ar = if quanW wd = true then e.ar ++ [nameG e.g] else e.ar := by
                cases c1 : quanW wd with
                | true =>
                  obtain ⟨b, z, g', eg, _, _⟩ := qyes c1
                  rw [ka _ _ _ eg, eg]; rfl
                | false => rw [kb (qno c1)]; rfl
              rw [this]
              exact sqT_same (sa.trans sb) hri1
        · obtain ⟨sK, acc, eD, _, hacc⟩ := pv
          rw [lal, kl, List.take_length] at hacc
          exact hR _ _ ⟨D, acc, rfl, s12.trans sK, eD, hacc⟩
      subst ey
      have sF := s1B.trans s12
      have sF9 := (s9.trans s11).trans s12
      have lK := hK.len
      have lW := hW.len
      rw [List.length_reverse] at lW
      have fW := flat_len W
      refine ⟨_, rfl, .inl ⟨rfl, _, SqL.of (sF9 _ _ ew8)⟩, .ref D, rfl, D, acc, rfl, SqL.of eD, fun p np => nil_read ⟨wA, p, ws, acc.reverse, rfl, rfl, ?_, upd_same, ?_, ?_⟩⟩
      · exact (same_new np) _ _ (sF9 _ _ ew8)
      · rw [List.length_reverse, sizeLine_eq]; omega
      · have sp := same_new np (o := .lst acc.reverse)
        have ew' := sp _ _ (sF9 _ _ ew8)
        have es' := sp _ _ (sF9 _ _ es8)
        have hS' := hS8.keep (.of_same (sF9.trans sp))
        have hW' := hW.keep (.of_same (sF9.trans sp))
        have hK' := hK.keep (.of_same sp)
        have sF' := sF.trans sp
        generalize L2.upd H12 p (.lst acc.reverse) = HE at *
        have tk : TupKeep K HE (L2.upd HE wA (.lst (ws ++ acc.reverse))) := .upd ew'
        have eF : L2.upd HE wA (.lst (ws ++ acc.reverse)) sA = some (.lst (xs ++ [V.ref tp])) := by rw [upd_ne neq]; exact es'
        refine ⟨⟨S ++ [e], e.kids ++ W, _, _, _, _, _, _, _, _, _, _, rfl, same_upd sF' nwA, eF, hS'.keep tk, upd_same, ?_, ?_, ?_, ?_⟩, ?_⟩
        · rw [List.reverse_append]
          exact (hW'.keep tk).app (hK'.keep tk).rev
        · rw [List.flatMap_append]; exact eqn'
        · intro e2 h2
          rcases List.mem_append.mp h2 with h2 | h2
          · exact fine e2 h2
          · rw [List.mem_singleton.mp h2]; exact ewy
        · intro e2 h2
          rcases List.mem_append.mp h2 with h2 | h2
          · exact kids_good goode e2 h2
          · exact goods e2 (List.mem_cons_of_mem _ h2)
        · rw [lenAt_of eF, lenAt_of es, List.length_append]
          show 1001 - (xs.length + 1) < 1001 - xs.length
          omega
  · obtain ⟨y, hy, k, t, hq⟩ := hc
    exact ⟨y, hy, k, t, h _ _ hq⟩
end
end DQ

set_option Elab.async false
set_option linter.all false
set_option maxRecDepth 100000
set_option maxHeartbeats 3200000
namespace DQ
open PySem PySem.Spec PyProof.Rows L2
open PpSet
/-! ### {text for x in it if ..}: the rule -/
def tScX (P : Program) (w : World) (wi : TI) (g : TG) (tt : TT) (te : TE) (vs : List Nat) : TE := fun σ H Q => wi σ H fun J H1 => ∀ D, H1 D = none → ∃ W : Nat → Nat → Hp → Prop, (∃ m, W 0 m (upd H1 D (SetXO P w D []))) ∧ ∀ i m H, W i m H →
  (J.stop i H ∧ Q (.ref D) H) ∨ (J.go i H ∧ ∃ Nx : Hp → Prop, (∀ H', Nx H' → ∃ m', m' < m ∧ W (i + 1) m' H') ∧ ∀ x H', J.yld i H x H' → g x (wipe σ vs) H' fun σ2 H2 => wipe σ2 vs = wipe σ vs ∧ tt σ2 H2 fun b H3 =>
    if b = true then te σ2 H3 fun y H4 => ∃ (z : Str) (L : List Str), y = .str z ∧ H4 D = some (SetXO P w D L) ∧ L.length + 1 < scanBound ∧ Nx (upd H4 D (SetXO P w D (withX z L))) else Nx H3)
section
variable {X : Cx}
theorem sc_core {pins : List (Addr × Obj)} {s : Shared} {σ : L2.St} {H : Hp} {Q : VK} {use : Option (Value → Sem Unit)} {Qf : Value → Shared → Prop} {elt tg iter : Expr} {ifs : List Expr} {scope : Scope} {own : List (PySem.Str × Nat)} {pos pos' : Pos} {wi : TI} {g : TG} {tt : TT} {te : TE} (hc : X.calm = true) (hN : X.N.Nodup) (I : Inv X pins σ H s) (hi : PI X tg iter wi) (ok : BlkOk X.N X.env.scope scope own)
    (hg : ∀ (s : Shared) (H : Hp) (C : Addr) (cl : List (PySem.Str × Addr)) (fp : List Addr), PG (X.blk s H scope (compEnvC scope cl C X.env) fp) tg g) (ht : ∀ (s : Shared) (H : Hp) (C : Addr) (cl : List (PySem.Str × Addr)) (fp : List Addr), PTs (X.blk s H scope (compEnvC scope cl C X.env) fp) ifs tt)
    (he : ∀ (s : Shared) (H : Hp) (C : Addr) (cl : List (PySem.Str × Addr)) (fp : List Addr), PE (X.blk s H scope (compEnvC scope cl C X.env) fp) elt te) (hs : ∀ x, foldedSetIterable iter X.env x = pure x) (h : tScX X.prog X.w wi g tt te (own.map (·.2)) σ H Q)
    (post : ∀ D C s' m H', Inv X pins σ H' s' → Q (.ref D) H' → s'.heap.Ns C m → FpOk X pins H' C → compPost (model X.prog X.w) X.A X.xe use Qf (.ref D) C (.ok .next) s') :
    wpAny (model X.prog X.w) X.A (comprehension (.SetComp elt [⟨tg, iter, ifs, 0⟩] scope pos) scope X.env pos' (newSet (.type "set")) false (eval iter X.env) use) Qf X.xe s := by
  have free : ∀ y ∈ scope.names, y.2 = .free → ∃ c, X.env.cells.lookup y.1 = some c := fun y hy e => (ok.free y hy e).elim (fun k => I.ok.has _ (.inl k)) fun k => I.ok.has _ (.inr k)
  refine wpAny_comprehension_free (use := use) rfl hs (closure_ok free) ok.kind (fun y hy e => by rw [ok.uniq y hy, e]) (thn (hi.run pins s σ H _ I h) fun xv s1 hx => thn hx fun itv s2 ⟨it, fp, tn, J, H2, e, I2, T, st2, f2, q⟩ => ?_)
  subst e
  refine newSet_ok (newEnv_comp ?_)
  generalize hD : s2.heap.objs.size = D
  obtain ⟨W, ⟨m0, w0⟩, turn⟩ := q D (I2.hok.fresh (Nat.le_of_eq hD))
  -- the heap with the new set
  generalize h3 : s2.heap.push { cls := .type "set", dict := none, data := .set #[] 0 (.fresh 0 0 (!X.w.params.followText "set-order")) } = hp3
  have size3 : hp3.objs.size = s2.heap.objs.size + 1 := by rw [← h3]; exact Heap.size_push ..
  have old3 : ∀ b o, s2.heap.get? b = some o → hp3.get? b = some o := fun b o e => by rw [← h3]; exact Heap.get?_push_of_some _ e
  have new3 : SetX X.prog X.w hp3 D [] := setX_none (by rw [← h3, ← hD]; exact Heap.get?_push_size _ rfl)
  have I3 : Inv X pins σ (upd H2 D (SetXO X.prog X.w D [])) { s2 with heap := hp3 } := I2.laid (t' := s2.toks) old3 (Nat.le_of_eq hD) (setXO_new new3)
  generalize hs3 : ({ s2 with heap := hp3 } : Shared) = s3 at I3
  have e3 : s3.heap = hp3 := by rw [← hs3]
  have f3 : ∀ b ∈ fp, FpOk X pins (upd H2 D (SetXO X.prog X.w D [])) b ∧ b < s3.heap.objs.size := fun b hb => by
    obtain ⟨o, eo, _⟩ := T.obj _ _ st2 b hb
    have lt := Heap.lt_size eo
    refine ⟨⟨?_, (f2 b hb).2⟩, by rw [e3, size3]; exact Nat.lt_succ_of_lt lt⟩
    rw [upd_ne (by rw [← hD]; exact Nat.ne_of_lt lt)]
    exact (f2 b hb).1
  have st3 : tn 0 s3.heap := T.keep _ _ _ st2 fun b _ o e => by rw [e3]; exact old3 b o e
  have I4 := block_start I3 ok hN f3
  generalize hH3 : upd H2 D (SetXO X.prog X.w D []) = H3 at I3 I4 w0 f3
  have pg := hg s3 H3 s3.heap.objs.size (cellsFrom (s3.heap.objs.size + 1) scope.names (cloFrom X.env.cells scope.names [])) fp
  have pt := ht s3 H3 s3.heap.objs.size (cellsFrom (s3.heap.objs.size + 1) scope.names (cloFrom X.env.cells scope.names [])) fp
  have pe := he s3 H3 s3.heap.objs.size (cellsFrom (s3.heap.objs.size + 1) scope.names (cloFrom X.env.cells scope.names [])) fp
  have lay : ∀ h4, (pushCells (s3.heap.push { cls := .type "dict", data := .dict #[] }) scope.names) = h4 → tn 0 h4 := fun h4 e => T.keep _ _ _ st3 fun b _ o eo => by rw [← e]; exact pushCells_keeps _ _ _ _ (Heap.get?_push_of_some _ eo)
  have goal2 : codeAny (model X.prog X.w) X.A (.compStart (.SetComp elt [⟨tg, iter, ifs, 0⟩] scope pos) 0 (.ref it) (.ref D) (compEnvC scope (cellsFrom (s3.heap.objs.size + 1) scope.names (cloFrom X.env.cells scope.names [])) s3.heap.objs.size X.env)) (compPost (model X.prog X.w) X.A X.xe use Qf (.ref D) s3.heap.objs.size) { s3 with heap := pushCells (s3.heap.push { cls := .type "dict", data := .dict #[] }) scope.names } := by
    generalize hce : compEnvC scope (cellsFrom (s3.heap.objs.size + 1) scope.names (cloFrom X.env.cells scope.names [])) s3.heap.objs.size X.env = ce at I4 pg pt pe ⊢
    have cL : ce.locals = s3.heap.objs.size := by subst hce; rfl
    have st4 := lay _ rfl
    generalize hs4 : ({ s3 with heap := pushCells (s3.heap.push { cls := .type "dict", data := .dict #[] }) scope.names } : Shared) = s4 at I4 ⊢
    have st4 : tn 0 s4.heap := by rw [← hs4]; exact st4
    have calm : ∀ {σ' : L2.St} {H' : Hp} {s' : Shared}, Inv (X.blk s3 H3 scope ce fp) [] σ' H' s' → (∀ b ∈ fp, H' b = none) → ∀ b ∈ fp, FpOk (X.blk s3 H3 scope ce fp) [] H' b := fun {σ' H' s'} I' hn b hb =>
      ⟨hn b hb, (I'.ok.exf b hb).1, I'.ok.exfs b hb, .inl hb, fun x c e => (I'.ok.exf b hb).2 x c e, fun p hp => absurd (show p ∈ ([] : List (Addr × Obj)) ++ [] from hp) (by simp)⟩
    have loop : codeAny (model X.prog X.w) X.A (.compLoop (.SetComp elt [⟨tg, iter, ifs, 0⟩] scope pos) 0 (.ref it) (.ref D) ce) (compPost (model X.prog X.w) X.A X.xe use Qf (.ref D) s3.heap.objs.size) s4 := by
      refine compLoopS_any (fun n s' => ∃ i H', Inv (X.blk s3 H3 scope ce fp) [] (wipe σ (own.map (·.2))) H' s' ∧ tn i s'.heap ∧ (∀ b ∈ fp, H' b = none) ∧ W i n H') (fun n s5 ⟨i, H5, I5, st5, n5, w5⟩ => ?_) m0 ⟨0, H3, I4, st4, fun b hb => (f3 b hb).1.1, w0⟩
      rcases turn i n H5 w5 with ⟨stop, done⟩ | ⟨go, Nx, less, step⟩
      · refine thnF (T.done (X.blk s3 H3 scope ce fp) rfl rfl rfl hc i [] s5 _ H5 (fun _ _ => False) I5 (calm I5 n5) st5 stop) fun r s6 ⟨hr, I6⟩ => ?_
        subst hr
        have I7 : Inv X pins σ H5 s6 := I3.call' (ch := fp) I6.os I6.base I6.hok I6.bare fun b hb => ⟨(f3 b hb).1.2.2.2.1, (f3 b hb).1.2.1, (f3 b hb).1.2.2.2.2.1, (f3 b hb).1.2.2.2.2.2⟩
        have nC : H5 s3.heap.objs.size = none := by rw [← cL]; exact I6.free
        obtain ⟨m, hn, _⟩ := I6.loc
        exact post D s3.heap.objs.size s6 m H5 I7 done (by rw [← cL]; exact hn) (I3.fpOk (Nat.le_refl _) nC)
      · refine thnF (T.item (X.blk s3 H3 scope ce fp) rfl rfl rfl hc i [] s5 _ H5 (fun _ _ => False) I5 (calm I5 n5) st5 go) fun r s6 ⟨u, hr, h6⟩ => ?_
        subst hr
        refine thnF h6 fun _ s7 ⟨x, H7, I7, r7, y7, st7, n7⟩ => ?_
        have J7 := I7.pinned (calm I7 n7) (T.obj _ _ st7)
        refine thnF (pg.run _ s7 _ H7 x u _ J7 r7 (step x H7 y7)) fun _ s8 ⟨σ8, H8, I8, hw8, q8⟩ => thnF (pt.run _ s8 σ8 H8 _ I8 q8) fun b s9 ⟨H9, I9, q9⟩ => ?_
        have next : ∀ {s' : Shared} {H' : Hp}, Inv (X.blk s3 H3 scope ce fp) ([] ++ pinsAt fp s7.heap) σ8 H' s' → Nx H' → ∃ m, m < n ∧ ∃ i H', Inv (X.blk s3 H3 scope ce fp) [] (wipe σ (own.map (·.2))) H' s' ∧ tn i s'.heap ∧ (∀ b ∈ fp, H' b = none) ∧ W i m H' := fun {s' H'} I' nx => by
          obtain ⟨m', lt, w'⟩ := less H' nx
          have kept : ∀ b ∈ fp, ∀ o, s7.heap.get? b = some o → s'.heap.get? b = some o ∧ H' b = none := fun b hb o e => (I'.pin (b, o) (List.mem_append_right _ (List.mem_append_right _ (mem_pinsAt hb e)))).imp_right And.left
          refine ⟨m', lt, i + 1, H', (I'.unpinned (pins := [])).weak (by rw [← hw8, wipe_length]) (fun j v e => ?_), T.keep _ _ _ st7 fun b hb o e => (kept b hb o e).1, fun b hb => ?_, w'⟩
          · rw [← hw8] at e
            exact (wipe_some e).1
          · obtain ⟨o, e, _⟩ := T.obj _ _ st7 b hb
            exact (kept b hb o e).2
        cases b with
        | false =>
          simp only [Bool.false_eq_true, if_false] at q9 ⊢
          exact next I9 q9
        | true =>
          simp only [if_true] at q9 ⊢
          refine thnF (pe.run _ s9 σ8 H9 _ I9 q9) fun z s10 ⟨yv, H10, I10, r10, t, L, ey, hD10, room, nx⟩ => ?_
          subst ey
          exact add_text (X := X.blk s3 H3 scope ce fp) I10 hD10 r10 room fun s11 I11 => next I11 nx
    exact codeAny_compStart_set loop (T.self X.A 0 _ _ _ st4 loop)
  exact goal2
theorem pe_scX {elt tg iter : Expr} {ifs : List Expr} {scope : Scope} {own : List (PySem.Str × Nat)} {pos : Pos} {wi : TI} {g : TG} {tt : TT} {te : TE} (hc : X.calm = true) (hN : X.N.Nodup) (hi : PI X tg iter wi) (ok : BlkOk X.N X.env.scope scope own)
    (hg : ∀ (s : Shared) (H : Hp) (C : Addr) (cl : List (PySem.Str × Addr)) (fp : List Addr), PG (X.blk s H scope (compEnvC scope cl C X.env) fp) tg g) (ht : ∀ (s : Shared) (H : Hp) (C : Addr) (cl : List (PySem.Str × Addr)) (fp : List Addr), PTs (X.blk s H scope (compEnvC scope cl C X.env) fp) ifs tt)
    (he : ∀ (s : Shared) (H : Hp) (C : Addr) (cl : List (PySem.Str × Addr)) (fp : List Addr), PE (X.blk s H scope (compEnvC scope cl C X.env) fp) elt te) (hs : ∀ x, foldedSetIterable iter X.env x = pure x := by intro _; rfl) :
    PE X (.SetComp elt [⟨tg, iter, ifs, 0⟩] scope pos) (tScX X.prog X.w wi g tt te (own.map (·.2))) := by
  refine ⟨fun pins s σ H Q I h => ?_⟩
  rw [eval_SetComp]
  refine sc_core hc hN I hi ok hg ht he hs h fun D C s' m H' I' q hn f => ⟨m, hn, fun h'' sb => ?_⟩
  obtain ⟨f0, f1, f2, f3, f4, f5⟩ := f
  exact ⟨.ref D, H', I'.turned (t' := s'.toks) (fun b o hb e => (sb.2 b hb).trans e) f0 f1 f3 f4 f5, rfl, q⟩
/-- one that a plain local takes on one line -/
theorem ps_setScX {i : Nat} {y : PySem.Str} {py spos : Pos} {elt tg iter : Expr} {ifs : List Expr} {scope : Scope} {own : List (PySem.Str × Nat)} {pos : Pos} {wi : TI} {g : TG} {tt : TT} {te : TE} (calm : X.calm = true) (nd : X.N.Nodup) (at_ : X.N[i]? = some y) (loc : X.env.scope.names.lookup y = some .local)
    (used : swapsWith (.SetComp elt [⟨tg, iter, ifs, 0⟩] scope pos) (some (.Name y py)) spos.line X.env = pure true) (hi : PI X tg iter wi) (ok : BlkOk X.N X.env.scope scope own)
    (hg : ∀ (s : Shared) (H : Hp) (C : Addr) (cl : List (PySem.Str × Addr)) (fp : List Addr), PG (X.blk s H scope (compEnvC scope cl C X.env) fp) tg g) (ht : ∀ (s : Shared) (H : Hp) (C : Addr) (cl : List (PySem.Str × Addr)) (fp : List Addr), PTs (X.blk s H scope (compEnvC scope cl C X.env) fp) ifs tt)
    (he : ∀ (s : Shared) (H : Hp) (C : Addr) (cl : List (PySem.Str × Addr)) (fp : List Addr), PE (X.blk s H scope (compEnvC scope cl C X.env) fp) elt te) (hs : ∀ x, foldedSetIterable iter X.env x = pure x := by intro _; rfl) :
    PS X (.Assign [.Name y py] (.SetComp elt [⟨tg, iter, ifs, 0⟩] scope pos) spos) (tAsg (tScX X.prog X.w wi g tt te (own.map (·.2))) (gName i)) := by
  constructor
  intro pins s σ H D I ask
  have ask : tScX X.prog X.w wi g tt te (own.map (·.2)) σ H (fun x H1 => gName i x σ H1 D.nx) := ask
  rw [exec_Assign_Name_used _ _ _ _ used]
  apply wpAny_bind
  apply wpAny_standAt
  apply wpAny_bind
  have main := sc_core (use := some (assign (.Name y py) X.env)) (Qf := fun _ t => SP X pins D .next t) (pos := pos) (pos' := firstIterPos [⟨tg, iter, ifs, 0⟩] pos) calm nd I hi ok hg ht he hs ask (by
    intro L C t m G J post ns fp
    show wpAny _ _ (assign (.Name y py) X.env (.ref L)) _ _ _
    apply wpAny_assign_Name
    refine store_ok2 (v := V.ref L) J nd at_ (.inl loc) rfl ?_ (.inr loc)
    rintro t2 J2 ⟨a, sb, who⟩
    obtain ⟨p0, p1, p2, p3, p4, p5⟩ := fp
    have far : C ≠ a := by
      rcases who with e | e
      · subst e; exact p1
      · intro e2; exact p4 y a e e2.symm
    refine ⟨m, ns.sameBut sb far, ?_⟩
    intro h3 sb3
    exact ⟨_, G, J2.turned (t' := t2.toks) (fun b o hb e => (sb3.2 b hb).trans e) p0 p1 p3 p4 p5, post⟩)
  apply wpAny_bind
  apply thn main
  intro _ t q
  exact wpAny_pure (wpAny_pure q)
theorem sc_used {elt : Expr} {gs : List Comprehension} {scope : Scope} {pos py : Pos} {y : Str} {l : Nat} {env : Env} (fn : env.scope.kind = .function) (lo : env.scope.names.lookup y = some .local) (ln : (py.line == pos.line) = true)
    (no : (scope.names.any fun (n, k) => n == y && (k == .local || k == .cell)) = false) : swapsWith (.SetComp elt gs scope pos) (some (.Name y py)) l env = pure true := by
  have e1 : env.kindOf y = some .local := lo
  have e2 : env.blockKind = .function := by
    unfold Env.blockKind
    rw [fn]; rfl
  unfold swapsWith
  simp only [e2, e1, no, Expr.pos, ln]
  rfl
end
end DQ

set_option Elab.async false
set_option linter.all false
set_option maxRecDepth 100000
set_option maxHeartbeats 3200000
namespace DQ
open PySem PySem.Spec PyProof.Rows L2
/-! ### {k: v for x in it if .. for y in it1 if ..} -/
abbrev Two (kx vx t i u j : Expr) (fs gs : List Expr) (sc : Scope) (ps : Pos) : Expr := .DictComp kx vx [⟨t, i, fs, 0⟩, ⟨u, j, gs, 0⟩] sc ps
theorem two_turn0 (kx vx t i u j : Expr) (fs gs : List Expr) (sc : Scope) (ps : Pos) (it ac : Value) (en : Env) : compTurn (Two kx vx t i u j fs gs sc ps) 0 it ac en = (do
      standAt i.pos
      match ← pyNext it with
      | none => pure (.done .next)
      | some y =>
        letOwnedTupleGo t it y
        assign t en y
        let mut yes := true
        for c in fs do
          if yes then yes ← isTrue c en (eval c en)
        if yes then
          let x ← eval j en
          standAt j.pos
          let x ← foldedSetIterable j en x
          let _ ← runOwn (.compStart (Two kx vx t i u j fs gs sc ps) 1 (← holding [x] (pyIter x)) ac en) en
        again (.compLoop (Two kx vx t i u j fs gs sc ps) 0 it ac en)) := by rfl
theorem two_turn1 (kx vx t i u j : Expr) (fs gs : List Expr) (sc : Scope) (ps : Pos) (it : Value) (D : Addr) (en : Env) : compTurn (Two kx vx t i u j fs gs sc ps) 1 it (.ref D) en = (do
      standAt j.pos
      match ← pyNext it with
      | none => pure (.done .next)
      | some y =>
        letOwnedTupleGo u it y
        assign u en y
        let mut yes := true
        for c in gs do
          if yes then yes ← isTrue c en (eval c en)
        if yes then
          (do
            let a ← eval kx en
            let b ← holding [a] (eval vx en)
            standAt { kx.pos with endLine := vx.pos.endLine, endCol := vx.pos.endCol }
            holding [a, b] (dictSet D a b))
        again (.compLoop (Two kx vx t i u j fs gs sc ps) 1 it (.ref D) en)) := by rfl
section
variable {prog : Program} {w : World} {A : Around} {R : Result → Shared → Prop} {s : Shared} {kx vx t i u j : Expr} {fs gs : List Expr} {sc : Scope} {ps : Pos} {it : Value} {D : Addr} {en : Env}
abbrev askAll (fs : List Expr) (en : Env) : Sem Bool := forIn fs true fun c r => if r = true then do let ok ← isTrue c en (eval c en); pure (ForInStep.yield ok) else pure (ForInStep.yield r)
abbrev Err (prog : Program) (w : World) (A : Around) (en : Env) (R : Result → Shared → Prop) : Value → Shared → Prop := notedBy (model prog w) A en fun e q => R (.error e) q
theorem two_loop0 (hs : ∀ x, foldedSetIterable j en x = pure x) (I : Nat → Shared → Prop) (turn : ∀ n s, I n s → wpAny (model prog w) A (pyNext it) (fun r s1 => match r with
      | none => R (.ok .next) s1
      | some y => wpAny (model prog w) A (letOwnedTupleGo t it y) (fun _ s2 => wpAny (model prog w) A (assign t en y) (fun _ s3 => wpAny (model prog w) A (askAll fs en) (fun yes s4 => if yes = true then wpAny (model prog w) A (eval j en) (fun x s5 => wpAny (model prog w) A (pyIter x) (fun z s6 =>
              codeAny (model prog w) A (.compStart (Two kx vx t i u j fs gs sc ps) 1 z (.ref D) en) (fun r q => match r with | .ok _ => ∃ m, m < n ∧ I m q | .error _ => False) s6) (Err prog w A en R) s5) (Err prog w A en R) s4
            else ∃ m, m < n ∧ I m s4) (Err prog w A en R) s3) (Err prog w A en R) s2) (Err prog w A en R) s1) (Err prog w A en R) s) (n : Nat) (h : I n s) : codeAny (model prog w) A (.compLoop (Two kx vx t i u j fs gs sc ps) 0 it (.ref D) en) R s := by
  refine codeAny_loop rfl I (fun n s hI => ?_) n h
  show wpAny _ A ((compTurn (Two kx vx t i u j fs gs sc ps) 0 it (.ref D) en).onRaise (fun x => do noteFrame x en; theTreesLotGoes x)) _ _ s
  refine wpAny_noted ?_
  rw [two_turn0]
  refine wpAny_bind (wpAny_standAt (wpAny_bind (wpAny_mono (turn n s hI) (fun r s1 h1 => ?_) fun _ _ e => e)))
  cases r with
  | none => exact wpAny_pure h1
  | some y =>
    refine wpAny_bind (wpAny_mono h1 (fun _ s2 h2 => wpAny_bind (wpAny_mono h2 (fun _ s3 h3 => wpAny_bind (wpAny_mono h3 (fun yes s4 h4 => ?_) fun _ _ e => e)) fun _ _ e => e)) fun _ _ e => e)
    cases yes with
    | false => exact wpAny_pure ⟨rfl, h4⟩
    | true =>
      refine wpAny_bind (wpAny_mono h4 (fun x s5 h5 => wpAny_bind (wpAny_standAt (wpAny_bind (wpAny_of_eq (hs x) (wpAny_bind (wpAny_holding (wpAny_mono h5 (fun z s6 h6 => ?_) fun _ _ e => e))))))) fun _ _ e => e)
      refine wpAny_bind (wpAny_runOwn ?_)
      rw [Around.mark_none]
      refine codeAny_mono h6 fun r q hr => ?_
      cases r with
      | error e => exact hr.elim
      | ok f => first | exact wpAny_pure ⟨rfl, hr⟩ | exact wpAny_bind (wpAny_pure (wpAny_pure ⟨rfl, hr⟩))
theorem two_loop1 (I : Nat → Shared → Prop) (turn : ∀ n s, I n s → wpAny (model prog w) A (pyNext it) (fun r s1 => match r with
      | none => R (.ok .next) s1
      | some y => wpAny (model prog w) A (letOwnedTupleGo u it y) (fun _ s2 => wpAny (model prog w) A (assign u en y) (fun _ s3 => wpAny (model prog w) A (askAll gs en) (fun yes s4 => if yes = true then wpAny (model prog w) A (eval kx en) (fun a s5 => wpAny (model prog w) A (eval vx en) (fun b s6 =>
              wpAny (model prog w) A (dictSet D a b) (fun _ s7 => ∃ m, m < n ∧ I m s7) (Err prog w A en R) s6) (Err prog w A en R) s5) (Err prog w A en R) s4
            else ∃ m, m < n ∧ I m s4) (Err prog w A en R) s3) (Err prog w A en R) s2) (Err prog w A en R) s1) (Err prog w A en R) s) (n : Nat) (h : I n s) : codeAny (model prog w) A (.compLoop (Two kx vx t i u j fs gs sc ps) 1 it (.ref D) en) R s := by
  refine codeAny_loop rfl I (fun n s hI => ?_) n h
  show wpAny _ A ((compTurn (Two kx vx t i u j fs gs sc ps) 1 it (.ref D) en).onRaise (fun x => do noteFrame x en; theTreesLotGoes x)) _ _ s
  refine wpAny_noted ?_
  rw [two_turn1]
  refine wpAny_bind (wpAny_standAt (wpAny_bind (wpAny_mono (turn n s hI) (fun r s1 h1 => ?_) fun _ _ e => e)))
  cases r with
  | none => exact wpAny_pure h1
  | some y =>
    refine wpAny_bind (wpAny_mono h1 (fun _ s2 h2 => wpAny_bind (wpAny_mono h2 (fun _ s3 h3 => wpAny_bind (wpAny_mono h3 (fun yes s4 h4 => ?_) fun _ _ e => e)) fun _ _ e => e)) fun _ _ e => e)
    cases yes with
    | false => exact wpAny_pure ⟨rfl, h4⟩
    | true => exact wpAny_bind (wpAny_bind (wpAny_mono h4 (fun a s5 h5 => wpAny_bind (wpAny_holding (wpAny_mono h5 (fun b s6 h6 => wpAny_bind (wpAny_standAt (wpAny_holding (wpAny_mono h6 (fun _ s7 h7 => wpAny_pure ⟨rfl, h7⟩) fun _ _ e => e)))) fun _ _ e => e))) fun _ _ e => e))
theorem two_start1 (h0 : codeAny (model prog w) A (.compLoop (Two kx vx t i u j fs gs sc ps) 1 it (.ref D) en) R s)
    (h : wpAny (model prog w) A (pyIter it) (fun z q => codeAny (model prog w) A (.compLoop (Two kx vx t i u j fs gs sc ps) 1 z (.ref D) en) R q) (Err prog w A en R) s) : codeAny (model prog w) A (.compStart (Two kx vx t i u j fs gs sc ps) 1 it (.ref D) en) R s := by
  refine codeAny_of_tree ?_
  show wpAny _ _ ((compStart (Two kx vx t i u j fs gs sc ps) 1 it (.ref D) en).onRaise (fun x => do noteFrame x en; standAt theWindowsPlace)) _ _ s
  refine wpAny_notedAt ?_
  unfold compStart
  show wpAny _ _ (ask >>= _) _ _ s
  refine wpAny_bind (wpAny_askSetting (wpAny_ite ?_))
  split
  · first | exact wpAny_bind (wpAny_pure (wpAny_pure (And.intro rfl h0))) | exact wpAny_pure (And.intro rfl h0)
  · first | exact wpAny_bind (wpAny_rule (wpAny_bind (wpAny_standAt (wpAny_bind (wpAny_mono h (fun z q h' => wpAny_pure (And.intro rfl h')) fun _ _ x => x)))))
          | (refine wpAny_bind (wpAny_rule ?_); show wpAny _ _ (standAt j.pos >>= _) _ _ s; exact wpAny_bind (wpAny_standAt (wpAny_bind (wpAny_mono h (fun z q h' => wpAny_pure (And.intro rfl h')) fun _ _ x => x))))
end
def tDc2 (wi : TI) (g : TG) (tt : TT) (wi1 : TI) (g1 : TG) (tt1 : TT) (tk tv : TE) (vs vs1 : List Nat) : TE := fun σ H Q => wi σ H fun J H1 => ∀ D, H1 D = none → ∃ W : Nat → Nat → Hp → Prop, (∃ m, W 0 m (upd H1 D (.dK []))) ∧ ∀ i m H, W i m H →
  (J.stop i H ∧ Q (.ref D) H) ∨ (J.go i H ∧ ∃ Nx : Hp → Prop, (∀ H', Nx H' → ∃ m', m' < m ∧ W (i + 1) m' H') ∧ ∀ x H', J.yld i H x H' → g x (wipe σ vs) H' fun σ2 H2 => wipe σ2 vs = wipe σ vs ∧ tt σ2 H2 fun b H3 =>
    if b = true then wi1 σ2 H3 fun J1 H4 => ∃ W1 : Nat → Nat → Hp → Prop, (∃ m, W1 0 m H4) ∧ ∀ j k H, W1 j k H → (J1.stop j H ∧ Nx H) ∨ (J1.go j H ∧ ∃ N1 : Hp → Prop, (∀ H', N1 H' → ∃ k', k' < k ∧ W1 (j + 1) k' H') ∧ ∀ x H', J1.yld j H x H' → g1 x (wipe σ2 vs1) H' fun σ3 H5 => wipe σ3 vs1 = wipe σ2 vs1 ∧ tt1 σ3 H5 fun b H6 =>
        if b = true then tk σ3 H6 fun y H7 => tv σ3 H7 fun z H8 => ∃ kvs k, y = kV k ∧ H8 D = some (.dK kvs) ∧ kvs.length < sizeLine ∧ N1 (upd H8 D (.dK (putK kvs k z))) else N1 H6)
    else Nx H3)
/-- what the pieces of the block answer -/
structure TwoParts (X : Cx) (kx vx t u j : Expr) (fs gs : List Expr) (sc : Scope) (g : TG) (tt : TT) (wi1 : TI) (g1 : TG) (tt1 : TT) (tk tv : TE) : Prop where
  goes : ∀ s H C cl fp, PG (X.blk s H sc (compEnvC sc cl C X.env) fp) t g
  tests : ∀ s H C cl fp, PTs (X.blk s H sc (compEnvC sc cl C X.env) fp) fs tt
  walk1 : ∀ s H C cl fp, PI (X.blk s H sc (compEnvC sc cl C X.env) fp) u j wi1
  goes1 : ∀ s H C cl fp, PG (X.blk s H sc (compEnvC sc cl C X.env) fp) u g1
  tests1 : ∀ s H C cl fp, PTs (X.blk s H sc (compEnvC sc cl C X.env) fp) gs tt1
  key : ∀ s H C cl fp, PE (X.blk s H sc (compEnvC sc cl C X.env) fp) kx tk
  val : ∀ s H C cl fp, PE (X.blk s H sc (compEnvC sc cl C X.env) fp) vx tv
section
variable {X : Cx}
theorem pe_dc2 {kx vx t i u j : Expr} {fs gs : List Expr} {sc : Scope} {own : List (PySem.Str × Nat)} {vs1 : List Nat} {pos : Pos} {wi wi1 : TI} {g g1 : TG} {tt tt1 : TT} {tk tv : TE} (calm : X.calm = true) (nd : X.N.Nodup) (hi : PI X t i wi) (ok : BlkOk X.N X.env.scope sc own) (sub : ∀ k ∈ vs1, k ∈ own.map (·.2))
    (B : TwoParts X kx vx t u j fs gs sc g tt wi1 g1 tt1 tk tv) (hs : ∀ x, foldedSetIterable i X.env x = pure x := by intro _; rfl) (hs1 : ∀ env x, foldedSetIterable j env x = pure x := by intro _ _; rfl) : PE X (Two kx vx t i u j fs gs sc pos) (tDc2 wi g tt wi1 g1 tt1 tk tv (own.map (·.2)) vs1) := by
  refine ⟨fun pins s σ H Q I ask => ?_⟩
  rw [arm_eval_DictComp]
  have free : ∀ y ∈ sc.names, y.2 = .free → ∃ c, X.env.cells.lookup y.1 = some c := fun y hy e => (ok.free y hy e).elim (fun k => I.ok.has _ (.inl k)) fun k => I.ok.has _ (.inr k)
  refine wpAny_comprehension_free (use := none) rfl hs (closure_ok free) ok.kind (fun y hy e => by rw [ok.uniq y hy, e]) (thn (hi.run pins s σ H _ I ask) fun xv s1 hx => thn hx fun itv s2 ⟨it, fp, tn, J, H2, e, I2, T, st2, f2, q⟩ => ?_)
  subst e
  refine wpAny_newObj_type (newEnv_comp ?_)
  generalize hD : s2.heap.objs.size = D
  obtain ⟨W, ⟨m0, w0⟩, turn⟩ := q D (I2.hok.fresh (Nat.le_of_eq hD))
  generalize hs3 : ({ s2 with heap := s2.heap.push { cls := .type "dict", data := .dict #[] } } : Shared) = s3
  have e3 : s3.heap = s2.heap.push { cls := .type "dict", data := .dict #[] } := by rw [← hs3]
  have I3 : Inv X pins σ (upd H2 D (.dK [])) s3 := by
    rw [← hs3]
    exact I2.laid (t' := s2.toks) (fun b o e => Heap.get?_push_of_some _ e) (Nat.le_of_eq hD) (by rw [← hD]; exact dk_empty s2.heap I2.big)
  have f3 : ∀ b ∈ fp, FpOk X pins (upd H2 D (.dK [])) b ∧ b < s3.heap.objs.size := fun b hb => by
    obtain ⟨o, eo, _⟩ := T.obj _ _ st2 b hb
    have lt := Heap.lt_size eo
    refine ⟨⟨?_, (f2 b hb).2⟩, by rw [e3, Heap.size_push]; exact Nat.lt_succ_of_lt lt⟩
    rw [upd_ne (by rw [← hD]; exact Nat.ne_of_lt lt)]
    exact (f2 b hb).1
  have st3 : tn 0 s3.heap := T.keep _ _ _ st2 fun b _ o e => by rw [e3]; exact Heap.get?_push_of_some _ e
  have I4 := block_start I3 ok nd f3
  have nfp : ∀ b ∈ fp, (upd H2 D (.dK [])) b = none := fun b hb => (f3 b hb).1.1
  generalize hH3 : upd H2 D (.dK []) = H3 at I3 I4 w0 nfp f3
  have pg := B.goes s3 H3 s3.heap.objs.size (cellsFrom (s3.heap.objs.size + 1) sc.names (cloFrom X.env.cells sc.names [])) fp
  have pt := B.tests s3 H3 s3.heap.objs.size (cellsFrom (s3.heap.objs.size + 1) sc.names (cloFrom X.env.cells sc.names [])) fp
  have pi1 := B.walk1 s3 H3 s3.heap.objs.size (cellsFrom (s3.heap.objs.size + 1) sc.names (cloFrom X.env.cells sc.names [])) fp
  have pg1 := B.goes1 s3 H3 s3.heap.objs.size (cellsFrom (s3.heap.objs.size + 1) sc.names (cloFrom X.env.cells sc.names [])) fp
  have pt1 := B.tests1 s3 H3 s3.heap.objs.size (cellsFrom (s3.heap.objs.size + 1) sc.names (cloFrom X.env.cells sc.names [])) fp
  have pk := B.key s3 H3 s3.heap.objs.size (cellsFrom (s3.heap.objs.size + 1) sc.names (cloFrom X.env.cells sc.names [])) fp
  have pv := B.val s3 H3 s3.heap.objs.size (cellsFrom (s3.heap.objs.size + 1) sc.names (cloFrom X.env.cells sc.names [])) fp
  have lay : ∀ h4, (pushCells (s3.heap.push { cls := .type "dict", data := .dict #[] }) sc.names) = h4 → tn 0 h4 := fun h4 e => T.keep _ _ _ st3 fun b _ o eo => by rw [← e]; exact pushCells_keeps _ _ _ _ (Heap.get?_push_of_some _ eo)
  have goal2 : codeAny (model X.prog X.w) X.A (.compStart (Two kx vx t i u j fs gs sc pos) 0 (.ref it) (.ref D) (compEnvC sc (cellsFrom (s3.heap.objs.size + 1) sc.names (cloFrom X.env.cells sc.names [])) s3.heap.objs.size X.env)) (compPost (model X.prog X.w) X.A X.xe none (EP X pins σ Q) (.ref D) s3.heap.objs.size) { s3 with heap := pushCells (s3.heap.push { cls := .type "dict", data := .dict #[] }) sc.names } := by
    generalize hce : compEnvC sc (cellsFrom (s3.heap.objs.size + 1) sc.names (cloFrom X.env.cells sc.names [])) s3.heap.objs.size X.env = ce at I4 pg pt pi1 pg1 pt1 pk pv ⊢
    have cL : ce.locals = s3.heap.objs.size := by subst hce; rfl
    have st4 := lay _ rfl
    generalize hs4 : ({ s3 with heap := pushCells (s3.heap.push { cls := .type "dict", data := .dict #[] }) sc.names } : Shared) = s4 at I4 ⊢
    have st4 : tn 0 s4.heap := by rw [← hs4]; exact st4
    have still : ∀ {σ' : L2.St} {H' : Hp} {q : Shared}, Inv (X.blk s3 H3 sc ce fp) [] σ' H' q → (∀ b ∈ fp, H' b = none) → ∀ b ∈ fp, FpOk (X.blk s3 H3 sc ce fp) [] H' b := fun {σ' H' q} I' hn b hb =>
      ⟨hn b hb, (I'.ok.exf b hb).1, I'.ok.exfs b hb, .inl hb, fun x c e => (I'.ok.exf b hb).2 x c e, fun p hp => absurd (show p ∈ ([] : List (Addr × Obj)) ++ [] from hp) (by simp)⟩
    have loop : codeAny (model X.prog X.w) X.A (.compLoop (Two kx vx t i u j fs gs sc pos) 0 (.ref it) (.ref D) ce) (compPost (model X.prog X.w) X.A X.xe none (EP X pins σ Q) (.ref D) s3.heap.objs.size) s4 := by
      refine two_loop0 (hs1 ce) (fun n q => ∃ k H', Inv (X.blk s3 H3 sc ce fp) [] (wipe σ (own.map (·.2))) H' q ∧ tn k q.heap ∧ (∀ b ∈ fp, H' b = none) ∧ W k n H') (fun n s5 ⟨k, H5, I5, st5, n5, w5⟩ => ?_) m0 ⟨0, H3, I4, st4, nfp, w0⟩
      rcases turn k n H5 w5 with ⟨stop, done⟩ | ⟨go, Nx, less, step⟩
      · refine thnF (T.done (X.blk s3 H3 sc ce fp) rfl rfl rfl calm k [] s5 _ H5 (fun _ _ => False) I5 (still I5 n5) st5 stop) fun r s6 ⟨hr, I6⟩ => ?_
        subst hr
        have I7 : Inv X pins σ H5 s6 := I3.call' (ch := fp) I6.os I6.base I6.hok I6.bare fun b hb => ⟨(f3 b hb).1.2.2.2.1, (f3 b hb).1.2.1, (f3 b hb).1.2.2.2.2.1, (f3 b hb).1.2.2.2.2.2⟩
        have nC : H5 s3.heap.objs.size = none := by rw [← cL]; exact I6.free
        obtain ⟨m, hn, _⟩ := I6.loc
        refine ⟨m, by rw [← cL]; exact hn, fun h'' sb => ?_⟩
        obtain ⟨g0, g1, _, g3, g4, g5⟩ := I3.fpOk (Nat.le_refl _) nC
        exact ⟨.ref D, H5, I7.turned (t' := s6.toks) (fun b o hb e => (sb.2 b hb).trans e) g0 g1 g3 g4 g5, rfl, done⟩
      refine thnF (T.item (X.blk s3 H3 sc ce fp) rfl rfl rfl calm k [] s5 _ H5 (fun _ _ => False) I5 (still I5 n5) st5 go) fun r s6 ⟨uv, hr, h6⟩ => ?_
      subst hr
      refine thnF h6 fun _ s7 ⟨x, H7, I7, r7, y7, st7, n7⟩ => ?_
      have J7 := I7.pinned (still I7 n7) (T.obj _ _ st7)
      refine thnF (pg.run _ s7 _ H7 x uv _ J7 r7 (step x H7 y7)) fun _ s8 ⟨σ8, H8, I8, hw8, q8⟩ => thnF (pt.run _ s8 σ8 H8 _ I8 q8) fun b s9 ⟨H9, I9, q9⟩ => ?_
      have next : ∀ {σ9 : L2.St} {q : Shared} {H' : Hp}, Inv (X.blk s3 H3 sc ce fp) ([] ++ pinsAt fp s7.heap) σ9 H' q → (wipe σ (own.map (·.2))).length = σ9.length → (∀ (a : Nat) v, (wipe σ (own.map (·.2)))[a]? = some (some v) → σ9[a]? = some (some v)) → Nx H' → ∃ m, m < n ∧ ∃ k H', Inv (X.blk s3 H3 sc ce fp) [] (wipe σ (own.map (·.2))) H' q ∧ tn k q.heap ∧ (∀ b ∈ fp, H' b = none) ∧ W k m H' := fun {σ9 q H'} I' hl hk nx => by
        obtain ⟨m', lt, w'⟩ := less H' nx
        have kept : ∀ b ∈ fp, ∀ o, s7.heap.get? b = some o → q.heap.get? b = some o ∧ H' b = none := fun b hb o e => (I'.pin (b, o) (List.mem_append_right _ (List.mem_append_right _ (mem_pinsAt hb e)))).imp_right And.left
        refine ⟨m', lt, k + 1, H', (I'.unpinned (pins := [])).weak hl hk, T.keep _ _ _ st7 fun b hb o e => (kept b hb o e).1, fun b hb => ?_, w'⟩
        obtain ⟨o, e, _⟩ := T.obj _ _ st7 b hb
        exact (kept b hb o e).2
      have hl8 : (wipe σ (own.map (·.2))).length = σ8.length := by rw [← hw8, wipe_length]
      have hk8 : ∀ (a : Nat) v, (wipe σ (own.map (·.2)))[a]? = some (some v) → σ8[a]? = some (some v) := fun a v e => by
        rw [← hw8] at e
        exact (wipe_some e).1
      have hk9 : ∀ (a : Nat) v, (wipe σ (own.map (·.2)))[a]? = some (some v) → (wipe σ8 vs1)[a]? = some (some v) := fun a v e => by
        rw [← hw8] at e
        obtain ⟨e1, e2⟩ := wipe_some e
        rw [wipe_out fun z => e2 (sub a z)]
        exact e1
      cases b with
      | false =>
        simp only [Bool.false_eq_true, if_false] at q9 ⊢
        exact next I9 hl8 hk8 q9
      | true =>
        simp only [if_true] at q9 ⊢
        refine thnF (pi1.run _ s9 σ8 H9 _ I9 q9) fun xv s10 hx => thnF hx fun itv s11 ⟨it1, fp1, tn1, J1, H11, e1, I11, T1, st11, f11, W1, ⟨m1, w1⟩, turn1⟩ => ?_
        subst e1
        have still1 : ∀ {H' : Hp}, (∀ b ∈ fp1, H' b = none) → ∀ b ∈ fp1, FpOk (X.blk s3 H3 sc ce fp) ([] ++ pinsAt fp s7.heap) H' b := fun hn b hb => ⟨hn b hb, (f11 b hb).2⟩
        have loop1 : codeAny (model X.prog X.w) X.A (.compLoop (Two kx vx t i u j fs gs sc pos) 1 (.ref it1) (.ref D) ce) (fun r q => match r with | .ok _ => ∃ m, m < n ∧ ∃ k H', Inv (X.blk s3 H3 sc ce fp) [] (wipe σ (own.map (·.2))) H' q ∧ tn k q.heap ∧ (∀ b ∈ fp, H' b = none) ∧ W k m H' | .error _ => False) s11 := by
          refine two_loop1 (fun c q => ∃ l H', Inv (X.blk s3 H3 sc ce fp) ([] ++ pinsAt fp s7.heap) (wipe σ8 vs1) H' q ∧ tn1 l q.heap ∧ (∀ b ∈ fp1, H' b = none) ∧ W1 l c H') (fun c s12 ⟨l, H12, I12, st12, n12, w12⟩ => ?_) m1 ⟨0, H11, I11.weak (wipe_length _ _) (fun a v e => (wipe_some e).1), st11, fun b hb => (f11 b hb).1, w1⟩
          rcases turn1 l c H12 w12 with ⟨stop1, nx1⟩ | ⟨go1, N1, less1, step1⟩
          · refine thnF (T1.done (X.blk s3 H3 sc ce fp) rfl rfl rfl calm l _ s12 (wipe σ8 vs1) H12 (fun _ _ => False) I12 (still1 n12) st12 stop1) fun r s13 ⟨hr, I13⟩ => ?_
            subst hr
            exact next I13 (hl8.trans (wipe_length σ8 vs1).symm) hk9 nx1
          refine thnF (T1.item (X.blk s3 H3 sc ce fp) rfl rfl rfl calm l _ s12 (wipe σ8 vs1) H12 (fun _ _ => False) I12 (still1 n12) st12 go1) fun r s13 ⟨u1, hr, h13⟩ => ?_
          subst hr
          refine thnF h13 fun _ s14 ⟨x1, H14, I14, r14, y14, st14, n14⟩ => ?_
          have J14 := I14.pinned (still1 n14) (T1.obj _ _ st14)
          refine thnF (pg1.run _ s14 (wipe σ8 vs1) H14 x1 u1 _ J14 r14 (step1 x1 H14 y14)) fun _ s15 ⟨σ15, H15, I15, hw15, q15⟩ => thnF (pt1.run _ s15 σ15 H15 _ I15 q15) fun b1 s16 ⟨H16, I16, q16⟩ => ?_
          have next1 : ∀ {q : Shared} {H' : Hp}, Inv (X.blk s3 H3 sc ce fp) (([] ++ pinsAt fp s7.heap) ++ pinsAt fp1 s14.heap) σ15 H' q → N1 H' → ∃ m, m < c ∧ ∃ l H', Inv (X.blk s3 H3 sc ce fp) ([] ++ pinsAt fp s7.heap) (wipe σ8 vs1) H' q ∧ tn1 l q.heap ∧ (∀ b ∈ fp1, H' b = none) ∧ W1 l m H' := fun {q H'} I' nx => by
            obtain ⟨m', lt, w'⟩ := less1 H' nx
            have kept : ∀ b ∈ fp1, ∀ o, s14.heap.get? b = some o → q.heap.get? b = some o ∧ H' b = none := fun b hb o e => (I'.pin (b, o) (List.mem_append_right _ (List.mem_append_right _ (mem_pinsAt hb e)))).imp_right And.left
            refine ⟨m', lt, l + 1, H', I'.unpinned.weak (by rw [← hw15, wipe_length]) (fun a v e => by rw [← hw15] at e; exact (wipe_some e).1), T1.keep _ _ _ st14 fun b hb o e => (kept b hb o e).1, fun b hb => ?_, w'⟩
            obtain ⟨o, e, _⟩ := T1.obj _ _ st14 b hb
            exact (kept b hb o e).2
          cases b1 with
          | false =>
            simp only [Bool.false_eq_true, if_false] at q16 ⊢
            exact next1 I16 q16
          | true =>
            simp only [if_true] at q16 ⊢
            refine thnF (pk.run _ s16 σ15 H16 _ I16 q16) fun z s17 ⟨yk, H17, I17, r17, q17⟩ => thnF (pv.run _ s17 σ15 H17 _ I17 q17) fun z2 s18 ⟨yv, H18, I18, r18, kvs, k2, ek, hD18, hz18, nx⟩ => ?_
            subst ek
            exact d_dictSet (X := X.blk s3 H3 sc ce fp) I18 hD18 hz18 r17 r18 fun s19 I19 => next1 I19 nx
        exact two_start1 loop1 (T1.self X.A 0 _ _ _ st11 loop1)
    exact codeAny_compStart_dict loop (T.self X.A 0 _ _ _ st4 loop)
  exact goal2
end
end DQ

set_option Elab.async false
set_option linter.all false
namespace DQ
open PySem PySem.Spec PyProof.Rows L2
/-- a walk, whatever a turn asks -/
theorem it_by {J : It} {n : Nat} {G : Hp → Prop} {Y : Nat → Hp → V → Hp → Prop} (w : Walk J n G Y) {B : (Hp → Prop) → V → Hp → Prop} {H0 : Hp} {Qd : Hp → Prop} (Pv : Nat → Hp → Prop) (h0 : Pv 0 H0) (hG : ∀ i H, i ≤ n → Pv i H → G H) (hs : ∀ i x H H', i < n → Pv i H → Y i H x H' → B (Pv (i + 1)) x H') (hd : ∀ H, Pv n H → Qd H) :
    ∃ W : Nat → Nat → Hp → Prop, (∃ m, W 0 m H0) ∧ ∀ i m H, W i m H → (J.stop i H ∧ Qd H) ∨ (J.go i H ∧ ∃ Nx : Hp → Prop, (∀ H', Nx H' → ∃ m', m' < m ∧ W (i + 1) m' H') ∧ ∀ x H', J.yld i H x H' → B Nx x H') := by
  refine ⟨fun i m H => m = n - i ∧ i ≤ n ∧ Pv i H, ⟨n, (Nat.sub_zero n).symm, Nat.zero_le _, h0⟩, ?_⟩
  rintro i m H ⟨rfl, hi, p⟩
  have g := hG i H hi p
  by_cases c : i < n
  · exact .inr ⟨w.goes i H c g, Pv (i + 1), fun H' p' => ⟨n - (i + 1), by omega, rfl, c, p'⟩, fun x H' y => hs i x H H' c p (w.yields i H x H' c g y)⟩
  · obtain rfl : i = n := by omega
    exact .inl ⟨w.stops H g, hd H p⟩
end DQ

set_option Elab.async false
set_option linter.all false
set_option maxRecDepth 100000
set_option maxHeartbeats 1000000
namespace DQ
open PySem PySem.Spec PyProof.Rows L2
/-! ### names_free_in -/
abbrev sNFree : Stmt := topS 21
abbrev NNf : List Str := ["seen", "one", "_", "around", "name"]
theorem scNFree : FnScope NNf ["seen"] (defScope sNFree) := ⟨rfl, rfl, rfl, by decide +kernel, rfl, by decide +kernel, by decide +kernel⟩
section
variable {P : Program} {w : World} {K : PySem.W.Frag} {mg : Str → Option Value} {base : Heap}
/-- all that was looked at, nothing wrong itself -/
def Clean (S : List En) : Prop := ∀ e ∈ S, e.g.good ∧ e.why = none
theorem dp_names {H : Hp} : ∀ {ns : List Str} {vs : List V}, DpAll K H vs (ns.map PyData.str) → vs = ns.map V.str
  | [], _, h => by cases h; rfl
  | n :: ns, _, h => by
    cases h with
    | cons a r => cases a; rw [dp_names r]; rfl
theorem dpAll_names {H : Hp} {h : Str} {vs : List V} {ds : List PyData} (r : DpAll K H vs ds) : DpAll K H (namesQ h vs) (namesQ h ds) := by
  unfold namesQ
  split
  · exact r
  · split
    · exact dpAll_drop 1 r
    · exact .nil
theorem names_few (g : Gn) : (namesG g).length ≤ 2 := by cases g <;> simp [namesG]
theorem freeL_len : ∀ S : List En, (freeL S).length ≤ 2 * S.length
  | [] => Nat.le_refl _
  | e :: S => by
    have h1 := freeL_len S
    have h2 := names_few e.g
    have h3 := List.length_filter_le (fun x => !decide (x ∈ e.ar)) (namesG e.g)
    show (e.frees ++ freeL S).length ≤ _
    rw [List.length_append, List.length_cons]
    unfold En.frees
    omega
theorem freeL_snoc (S : List En) (e : En) : freeL (S ++ [e]) = freeL S ++ e.frees := by unfold freeL; rw [List.flatMap_append]; simp
/-- an entry's tuple, read -/
theorem ent_node {H0 H : Hp} {v : V} {e : En} (h : EntAt K H0 H v e) (good : e.g.good) (ewy : e.why = none) : ∃ (a ax pa ra : Addr) (wd : Str) (vr : List V) (rs : List PyData), v = .ref a ∧ SqT K H a [.ref ax, .ref pa, .ref ra] ∧ SqT K H0 ax (.str wd :: vr) ∧ DpAll K H0 vr rs ∧ e.g.d = .tuple (.str wd :: rs) ∧ lenW wd = some (vr.length + 1) ∧ vr.length ≤ 3 ∧ SqT K H pa (pV e.p) ∧ SqT K H ra (e.ar.map V.str) ∧
    (quanW wd = true → ∃ b x a, e.g = .qu b x a ∧ vr[0]? = some (.str x)) ∧ (quanW wd = false → ∀ b x a, e.g ≠ .qu b x a) ∧ namesQ wd vr = (namesG e.g).map V.str := by
  obtain ⟨a, x, pa, ra, rfl, ha, dx, hpa, hra⟩ := h
  obtain ⟨wd, rs, ed, lw, parts, qyes, qno, nm⟩ := node_of good.1 (ar := e.ar) ewy
  rw [ed] at dx
  cases dx with
  | @tup ax vx _ hx rx =>
  cases rx with
  | @cons v0 vr _ _ g0 rr =>
  cases g0
  have l := dpAll_len rr
  have le := lenW_le lw
  refine ⟨a, ax, pa, ra, wd, vr, rs, rfl, ha, hx, rr, ed, by rw [l]; exact lw, by omega, hpa, hra, fun c => ?_, qno, ?_⟩
  · obtain ⟨b, z, g', eg, _, er⟩ := qyes c
    subst er
    cases rr with
    | cons g1 _ => cases g1; exact ⟨b, z, g', eg, rfl⟩
  · have := dpAll_names (h := wd) rr
    rw [nm] at this
    exact dp_names this
def spNFree (K : PySem.W.Frag) : Sp := fun vs H Q _ => ∃ (s : Addr) (xs : List V) (S : List En), vs = [.ref s] ∧ SqL K H s xs ∧ Ents K H H xs S ∧ Clean S ∧ S.length ≤ 1000 ∧ ∀ D H', Same H H' → H D = none → KeysX H' D (firstsX (freeL S)) → Q (.ref D) H'
theorem ok_nfree {f fN : Addr} {fd dN : FuncData} (F : Fun K "names_free_in" "names_free_in" sNFree f fd) (GN : FnOk P w K mg base CX0 1 fN dN ["one"] (spPickL K namesQ)) (bN : Binds K dN ["one"] []) (kN : PySem.W.keepIn K (.ref fN) = true) (mN : mg "names_in" = some (.ref fN)) : FnOk P w K mg base CX0 2 f fd ["seen"] (spNFree K) := by
  refine F.ok scNFree (fun vs H Q E h => ?_) (fun cdv A outer s H vs Q E hr h => ?_)
  · obtain ⟨_, _, _, rfl, _⟩ := h
    rfl
  obtain ⟨s, xs, S, rfl, hs, hS, clean, few, q⟩ := h
  have nd := scNFree.nd
  refine ⟨_, pss_one (ps_ret (pe_dc2 (own := [("one", 1), ("_", 2), ("around", 3), ("name", 4)]) (vs1 := [4]) (g := gTup K 3 (gCons (gName 1) (gCons (gName 2) (gCons (gName 3) gNil)))) (g1 := gName 4) (wi1 := iList K (tCall (spPickL K namesQ) [] E0 (tCons (tVar 1) tNil))) (tt := tYes) rfl nd (pi_list (pv 0)) (blkOk_by (own := [("one", 1), ("_", 2), ("around", 3), ("name", 4)]) (N := NNf) (sc := defScope sNFree) (by decide +kernel)) (by decide)
    ⟨fun _ _ _ _ _ => pg_tup rfl (pgs_cons (pg_name (i := 1) nd rfl (Or.inl rfl)) (pgs_cons (pg_name (i := 2) nd rfl (Or.inl rfl)) (pgs_cons (pg_name (i := 3) nd rfl (Or.inl rfl)) pgs_nil))), fun _ _ _ _ _ => pts_nil, fun _ _ _ _ _ => by exact pi_list (pe_call GN (hr.mono (by decide)) rfl mN kN bN .nil pass0 (pa_cons (pv 1) pa_nil)), fun _ _ _ _ _ => pg_name (i := 4) nd rfl (Or.inl rfl),
      fun _ _ _ _ _ => pts_one (pt_cmpR (r := rIn K true) op_notIn_seq (pv 4) (pv 3) (by rfl)), fun _ _ _ _ _ => pv 4, fun _ _ _ _ _ => pe_bl⟩)), ?_⟩
  refine ⟨_, rfl, s, rfl, ⟨_, hs⟩, fun D nD => ?_⟩
  have lS := hS.len
  refine it_by (walk_list (K := K) (a := s) (xs := xs)) (fun i H' => Same H H' ∧ KeysX H' D (firstsX (freeL (S.take i)))) ⟨same_new nD, [], upd_same, rfl⟩ (fun i H' _ pv => L2.Same.seq pv.1 hs) (fun i x H9 H' hi pv y => ?_) fun H' pv => ?_
  · obtain ⟨rfl, hx⟩ := y
    obtain ⟨sm, hk⟩ := pv
    obtain ⟨e, he, en⟩ := hS.at hx
    have cl := clean e (List.mem_of_getElem? he)
    obtain ⟨a, ax, pa, ra, wd, vr, rs, rfl, ha, hax, rr, ed, lw, lr, hpa, hra, _, _, nm⟩ := ent_node en cl.1 cl.2
    refine ⟨a, _, rfl, sqT_same sm ha, rfl, _, _, rfl, _, _, rfl, _, _, rfl, rfl, rfl, ?_⟩
    refine ⟨.ref ax, rfl, nil_read (show spPickL K namesQ [.ref ax] H' _ E0 from ⟨ax, wd, vr, rfl, sqT_same sm hax, by omega, lw, fun p H1 s1 np e1 => ⟨p, rfl, ⟨_, SqL.of e1⟩, ?_⟩⟩)⟩
    rw [nm] at e1
    have hk1 : KeysX H1 D (firstsX (freeL (S.take i) ++ ((namesG e.g).take 0).filter fun x => !decide (x ∈ e.ar))) := by
      obtain ⟨kvs, eD, ek⟩ := hk
      exact ⟨kvs, s1 _ _ eD, by rw [ek]; simp⟩
    refine it_by (walk_list (K := K) (a := p) (xs := (namesG e.g).map V.str)) (fun j H2 => Same H H2 ∧ H2 p = some (.lst ((namesG e.g).map V.str)) ∧ KeysX H2 D (firstsX (freeL (S.take i) ++ ((namesG e.g).take j).filter fun x => !decide (x ∈ e.ar)))) ⟨sm.trans s1, e1, hk1⟩ (fun j H2 _ pv => SqL.of pv.2.1) (fun j x H9 H2 hj pv y => ?_) fun H2 pv => ?_
    · obtain ⟨rfl, hx⟩ := y
      obtain ⟨s0, s12, kvs, eD, ek⟩ := pv
      have npD : p ≠ D := fun z => by
        obtain ⟨kvs', eD', _⟩ := hk
        rw [z, eD'] at np; cases np
      rw [List.length_map] at hj
      have hy : (namesG e.g)[j]? = some (namesG e.g)[j] := List.getElem?_eq_getElem hj
      rw [List.getElem?_map, hy] at hx
      have hx : x = .str (namesG e.g)[j] := by injection hx with hx; exact hx.symm
      subst hx
      generalize (namesG e.g)[j] = y at hy
      refine ⟨rfl, .str y, rfl, .ref ra, rfl, ra, _, rfl, .inr (sqT_same s0 hra), rfl, flat_words e.ar, _, rfl, ?_⟩
      show if (!inV (V.str y) (e.ar.map V.str)) = true then _ else _
      rw [inV_words]
      have tk := take_next hy
      cases c : decide (y ∈ e.ar) with
      | true =>
        refine iteF' rfl ⟨s0, s12, kvs, eD, ?_⟩
        rw [ek, tk, List.filter_append, show [y].filter (fun x => !decide (x ∈ e.ar)) = [] by simp [List.filter, c], List.append_nil]
      | false =>
        refine iteT' rfl ⟨.str y, rfl, kvs, .inr y, rfl, eD, ?_, same_upd s0 nD, by rw [upd_ne npD]; exact s12, _, upd_same, ?_⟩
        · have h1 := congrArg List.length ek
          rw [List.length_map, List.length_map] at h1
          have h2 := (firstsX_once _ (freeL (S.take i) ++ ((namesG e.g).take j).filter fun x => !decide (x ∈ e.ar)) rfl).2
          have h3 := freeL_len (S.take i)
          have h4 := names_few e.g
          have h5 := List.length_filter_le (fun x => !decide (x ∈ e.ar)) ((namesG e.g).take j)
          rw [List.length_append] at h2
          rw [List.length_take] at h3 h5
          rw [h1, sizeLine_eq]
          omega
        · rw [keysX_put ek, tk, List.filter_append, show [y].filter (fun x => !decide (x ∈ e.ar)) = [y] by simp [List.filter, c], ← List.append_assoc, firstsX_snoc]
    · obtain ⟨s0, s12, hk2⟩ := pv
      rw [List.length_map, List.take_length] at hk2
      refine ⟨s0, ?_⟩
      rw [take_next he, freeL_snoc]
      exact hk2
  · obtain ⟨sm, hk⟩ := pv
    rw [lS, List.take_length] at hk
    exact q D H' sm nD hk
end
end DQ

set_option Elab.async false
set_option linter.all false
set_option maxRecDepth 100000
set_option maxHeartbeats 1000000
namespace DQ
open PySem PySem.Spec PyProof.Rows L2
/-! ### max(xs, default=d), whole numbers -/
def maxOf (d : Int) : List Int → Int
  | [] => d
  | n :: r => r.foldl max n
def rMaxDef (K : PySem.W.Frag) : List V → List V → Hp → VK → Prop := fun vs zs H Q => ∃ (a : Addr) (ns : List Int) (d : Int), vs = [V.ref a] ∧ zs = [V.int d] ∧ SqL K H a (ns.map V.int) ∧ Q (.int (maxOf d ns)) H
theorem dpAll_ints {K : PySem.W.Frag} {H : Hp} : ∀ ns : List Int, DpAll K H (ns.map V.int) (ns.map PyData.int)
  | [] => .nil
  | n :: r => .cons (.int n) (dpAll_ints r)
theorem depth_ints : ∀ ns : List Int, PyData.depthAll (ns.map PyData.int) = 0
  | [] => rfl
  | n :: r => by show max 0 (PyData.depthAll (r.map PyData.int)) = 0; rw [depth_ints r]; rfl
theorem alike_ints (ns : List Int) : PySem.W.AlikeAll (ns.map PyData.int) := by
  refine ⟨fun x hx y hy => ?_, fun x hx => ?_⟩
  · obtain ⟨a, _, rfl⟩ := List.mem_map.mp hx
    obtain ⟨b, _, rfl⟩ := List.mem_map.mp hy
    rfl
  · obtain ⟨a, _, rfl⟩ := List.mem_map.mp hx
    exact fun e => PyData.noConfusion e
theorem cr_maxDef {X : Cx} (calm : X.calm = true) (hu : X.A.units + 64 < cLine) : CallRK X (.builtin "max") [Str.ofString "default"] (rMaxDef X.K) := by
  intro pins s σ H vs zs us ws Q I r rz h
  obtain ⟨a, ns, d, rfl, rfl, hs, q⟩ := h
  obtain rfl := Vals.ref1 r
  obtain ⟨w1, rfl, e1⟩ := vals1 rz
  obtain ⟨t, rfl⟩ := e1
  obtain ⟨its, rv, hl, _⟩ := I.list hs
  obtain ⟨as, hr⟩ := DpAll.reads I _ _ _ (dpAll_ints ns) rv
  refine PySem.W.max_list_default (I.ok.hd calm) hl.isList (by simpa using hr) (alike_ints ns) (by rw [depth_ints]; omega) (fun e h' tk hk => ?_) fun y ys i v h' tk bs e hv rd hk => ?_
  · obtain rfl : ns = [] := List.map_eq_nil_iff.mp e
    exact ⟨.int d, H, I.kept hk, ⟨t, rfl⟩, q⟩
  · cases ns with
    | nil => cases e
    | cons n r =>
      rw [List.map_cons] at e
      injection e with e1 e2
      subst e1 e2
      rw [PySem.W.maxD_ints] at rd
      cases rd with
      | int _ t2 => exact ⟨.int (r.foldl max n), H, I.kept hk, ⟨t2, rfl⟩, q⟩
end DQ

set_option Elab.async false
set_option linter.all false
set_option maxRecDepth 100000
set_option maxHeartbeats 1000000
namespace DQ
open PySem PySem.Spec PyProof.Rows L2
/-! ### first_wrong -/
abbrev sFirst : Stmt := topS 22
abbrev NFw : List Str := ["value", "seen", "why", "free", "one", "place", "_"]
theorem scFirst : FnScope NFw ["value"] (defScope sFirst) := ⟨rfl, rfl, rfl, by decide +kernel, rfl, by decide +kernel, by decide +kernel⟩
theorem pre_good : ∀ (g : Gn) (p : List Nat) (ar : List Str), g.good → ∀ e ∈ preG g p ar, e.g.good
  | .bad _, p, ar, h, e, he => by rw [List.mem_singleton.mp he]; exact h
  | .tr _, p, ar, h, e, he => by rw [List.mem_singleton.mp he]; exact h
  | .mk _ _, p, ar, h, e, he => by rw [List.mem_singleton.mp he]; exact h
  | .lk _ _ _, p, ar, h, e, he => by rw [List.mem_singleton.mp he]; exact h
  | .sm _ _, p, ar, h, e, he => by rw [List.mem_singleton.mp he]; exact h
  | .nt a, p, ar, h, e, he => by
    rcases List.mem_cons.mp he with rfl | he
    · exact h
    · exact pre_good a _ _ (kids_good (e := ⟨.nt a, p, ar⟩) h ⟨a, p ++ [0], ar⟩ (List.mem_singleton.mpr rfl)) e he
  | .cn b a c, p, ar, h, e, he => by
    rcases List.mem_cons.mp he with rfl | he
    · exact h
    · rcases List.mem_append.mp he with he | he
      · exact pre_good a _ _ (kids_good (e := ⟨.cn b a c, p, ar⟩) h ⟨a, p ++ [0], ar⟩ List.mem_cons_self) e he
      · exact pre_good c _ _ (kids_good (e := ⟨.cn b a c, p, ar⟩) h ⟨c, p ++ [1], ar⟩ (List.mem_cons_of_mem _ (List.mem_singleton.mpr rfl))) e he
  | .qu b x a, p, ar, h, e, he => by
    rcases List.mem_cons.mp he with rfl | he
    · exact h
    · exact pre_good a _ _ (kids_good (e := ⟨.qu b x a, p, ar⟩) h ⟨a, p ++ [0], ar ++ [x]⟩ (List.mem_singleton.mpr rfl)) e he
theorem seen_none {g : Gn} {S : List En} (h : Seen g S none) (good : g.good) : S = preG g [] [] ∧ fw1 g [] [] = none ∧ Clean S ∧ Gn.ofQ g.toQ = g ∧ ∀ x, x ∈ freeL S ↔ x ∈ freeS g.toQ := by
  obtain ⟨⟨T, e1, e2⟩, fine⟩ := h
  have e3 := e2 rfl
  subst e3
  rw [List.append_nil] at e1
  subst e1
  have nb := no_bad good.1 (p := []) (ar := []) fine
  refine ⟨rfl, scan_none.mpr fine, fun e he => ⟨pre_good g [] [] good e he, fine e he⟩, nb, fun x => ?_⟩
  have := free_pre x g.toQ [] []
  rw [nb] at this
  rw [this]; simp
theorem seen_some {g : Gn} {S : List En} {y : Str} (h : Seen g S (some y)) : ∃ S0 e, S = S0 ++ [e] ∧ fw1 g [] [] = some (e.p, y) := by
  obtain ⟨⟨T, e1, _⟩, S0, e, rfl, fine, ey⟩ := h
  refine ⟨S0, e, rfl, ?_⟩
  show scanE (preG g [] []) = _
  rw [← e1]
  unfold scanE
  rw [List.findSome?_append, List.findSome?_append, List.findSome?_eq_none_iff.mpr fun z hz => by rw [fine z hz]; rfl]
  rw [List.findSome?_cons, ey]; rfl
section
variable {P : Program} {w : World} {K : PySem.W.Frag} {mg : Str → Option Value} {base : Heap}
theorem dpAll_pV {H : Hp} : ∀ p : List Nat, DpAll K H (pV p) (p.map fun (k : Nat) => PyData.int (k : Nat))
  | [] => .nil
  | k :: p => .cons (.int _) (dpAll_pV p)
def spFirst (K : PySem.W.Frag) : Sp := fun vs H Q _ => ∃ (v : V) (g : Gn), vs = [v] ∧ Dp K H v g.d ∧ g.good ∧ g.sz ≤ 1000 ∧ ∀ x H', Same H H' → Dp K H' x (wrongD (dueG g)) → Q x H'
theorem ok_first {f fW fN rQ : Addr} {fd dW dN : FuncData} (F : Fun K "first_wrong" "first_wrong" sFirst f fd) (GW : FnOk P w K mg base CX0 4 fW dW ["value"] (spWalked K)) (bW : Binds K dW ["value"] []) (kW : PySem.W.keepIn K (.ref fW) = true) (mW : mg "walked" = some (.ref fW))
    (GN : FnOk P w K mg base CX0 2 fN dN ["seen"] (spNFree K)) (bN : Binds K dN ["seen"] []) (kN : PySem.W.keepIn K (.ref fN) = true) (mN : mg "names_free_in" = some (.ref fN)) (mQ : mg "QUANTIFIERS" = some (.ref rQ)) (eQ : ∀ H, SqT K H rQ (quansL.map V.str)) : FnOk P w K mg base CX0 5 f fd ["value"] (spFirst K) := by
  refine F.ok scFirst (fun vs H Q E h => ?_) (fun cdv A outer s H vs Q E hr h => ?_)
  · obtain ⟨_, _, rfl, _⟩ := h
    rfl
  obtain ⟨v, g, rfl, hd, good, size, q⟩ := h
  have nd := scFirst.nd
  refine ⟨_, (pss_cons (ps_asg (pe_call GW (hr.mono (by decide)) rfl mW kW bW .nil pass0 (pa_cons (pv 0) pa_nil)) (pg_tup rfl (pgs_cons (pg_name (i := 1) nd rfl (.inl rfl)) (pgs_cons (pg_name (i := 2) nd rfl (.inl rfl)) pgs_nil))))
     (pss_cons (ps_if (pt_cmpR op_notN (pv 2) pe_non (nomark _)) (pss_one (ps_ret (pe_tup (pa_cons (pe_ix (r := rIxT K) ix_tup (pe_ix (r := rIxL K) ix_list (pv 1) (pe_un un_neg pe_int) (fun _ _ => rfl)) pe_int (fun _ _ => rfl)) (pa_cons (pv 2) pa_nil))))) pss_nil)
     (pss_cons (ps_set (i := 3) nd rfl (.inl rfl) (pe_call GN (hr.mono (by decide)) rfl mN kN bN .nil pass0 (pa_cons (pv 1) pa_nil)))
     (pss_cons (ps_for PassesOwn.never rfl (pi_list (pv 1)) (pg_tup rfl (pgs_cons (pg_name (i := 4) nd rfl (.inl rfl)) (pgs_cons (pg_name (i := 5) nd rfl (.inl rfl)) (pgs_cons (pg_name (i := 6) nd rfl (.inl rfl)) pgs_nil)))) (pss_one (ps_if (PW.pt (pw_and (pt_cmpR (r := rIn K false) op_in_seq (pe_ix (r := rIxT K) ix_tup (pv 4) pe_int (fun _ _ => rfl)) (pe_glob (v := .ref rQ) (by rfl) mQ rfl) (by rfl)) (pw_and1 (pt_cmp (pc_din (hu_of hr) (pe_ix (r := rIxT K) ix_tup (pv 4) pe_int (fun _ _ => rfl)) (pv 3)) (by rfl))))) (pss_one (ps_ret (pe_tup (pa_cons (pv 5) (pa_cons pe_str pa_nil))))) pss_nil)))
     (pss_one (ps_ret pe_non)))))), ?_⟩
  refine seq_any (fun σ' H' => ∃ sA xs S why, σ' = [some v, some (.ref sA), some (optV why), none, none, none, none] ∧ Same H H' ∧ H' sA = some (.lst xs) ∧ Ents K H H' xs S ∧ Seen g S why) (fun D' rt' nx' => ?_) fun σ' H1 ⟨sA, xs, S, why, eσ, s1, es, hS, seen⟩ => ?_
  · refine ⟨v, rfl, nil_read (show spWalked K [v] H _ E0 from ⟨v, g, rfl, hd, good, size, fun p sA xs S why H' s1 np nS hp es hS seen => ?_⟩)⟩
    exact ⟨p, _, rfl, hp, rfl, _, _, rfl, _, _, rfl, rfl, nx' _ _ ⟨sA, xs, S, why, rfl, s1, es, hS, seen⟩⟩
  subst eσ
  have lS := hS.len
  refine seq_any (fun σ' H' => σ' = [some v, some (.ref sA), some .non, none, none, none, none] ∧ H' = H1 ∧ why = none) (fun D' rt' nx' => ?_) fun σ' H2 ⟨eσ, eH, ew⟩ => ?_
  · cases why with
    | none => exact ⟨_, rfl, rfl, _, rfl, iteF' rfl (nx' _ _ ⟨rfl, rfl, rfl⟩)⟩
    | some y =>
      obtain ⟨S0, e, rfl, ef⟩ := seen_some seen
      obtain ⟨ws, ve, rfl, _, en⟩ := hS.last
      obtain ⟨a, x, pa, ra, rfl, ha, dx, hpa, hra⟩ := en
      refine ⟨_, rfl, rfl, _, rfl, iteT' rfl ⟨_, rfl, 1, rfl, sA, _, -1, .ref a, rfl, rfl, SqL.of es, atI_last _ _, a, _, 1, .ref pa, rfl, rfl, ha, atI_nat (j := 1) rfl, _, rfl, by show 2 ≤ sizeLine; decide, fun p np => ?_⟩⟩
      rw [rt']
      have sp := same_new np (o := .tup [V.ref pa, .str y])
      refine q _ _ (s1.trans sp) ?_
      unfold dueG
      rw [ef]
      exact .tup (SqT.of upd_same) (.cons (.tup (sqT_same sp hpa) (dpAll_pV e.p)) (.cons (.str y) .nil))
  subst eσ
  subst eH
  subst ew
  obtain ⟨eS, ef, clean, nb, fr⟩ := seen_none seen good
  have few : S.length ≤ 1000 := by rw [eS, pre_len]; exact size
  refine seq_te (fun y H' => ∃ D, y = .ref D ∧ Same H2 H' ∧ KeysX H' D (firstsX (freeL S))) (fun R hR => ⟨_, rfl, nil_read (show spNFree K [.ref sA] H2 R E0 from ⟨sA, xs, S, rfl, SqL.of es, hS.up s1, clean, few, fun D H' s2 nD hk => hR _ _ ⟨D, rfl, s2, hk⟩⟩)⟩) fun y H3 ⟨D, ey, s3, hk⟩ => ?_
  subst ey
  show tSeq (tFor _ _ _) _ _ [some v, some (.ref sA), some .non, some (.ref D), none, none, none] H3
  have em : ∀ x, x ∈ firstsX (freeL S) ↔ x ∈ freeS g.toQ := fun x => ((firstsX_once _ _ rfl).1.2 x).trans (fr x)
  have due : dueG g = fw2 S (firstsX (freeL S)) := by
    unfold dueG
    rw [ef]
    show fw2 (preG g [] []) _ = _
    rw [← eS]
    exact fw2_congr fun x => (em x).symm
  have hS3 := (hS.keep (.of_same s3)).up s1
  have s03 := s1.trans s3
  obtain ⟨kvs, eD, ek⟩ := hk
  generalize hfr : firstsX (freeL S) = fr at due ek
  refine ⟨_, rfl, sA, rfl, ⟨_, SqL.of (s3 _ _ es)⟩, for_list (xs := xs) (fun i σ' H' => ∃ o4 o5 o6, σ' = [some v, some (.ref sA), some .non, some (.ref D), o4, o5, o6] ∧ H' = H3 ∧ fw2 (S.take i) fr = none) ⟨none, none, none, rfl, rfl, rfl⟩ (fun i σ' H' _ pv => ?_) (fun i x σ' H' hx pv => ?_) fun σ' H' pv => ?_⟩
  · obtain ⟨_, _, _, _, eH, _⟩ := pv
    rw [eH]; exact SqL.of (s3 _ _ es)
  · obtain ⟨o4, o5, o6, rfl, rfl, none⟩ := pv
    obtain ⟨e, he, en⟩ := hS3.at hx
    have cl := clean e (List.mem_of_getElem? he)
    obtain ⟨a, ax, pa, ra, wd, vr, rs, rfl, ha, hax, rr, ed, lw, lr, hpa, hra, qyes, qno, nm⟩ := ent_node en cl.1 cl.2
    have hax := sqT_same s3 hax
    have step : fw2 (S.take (i + 1)) fr = En.freeWrong fr e := by
      rw [take_next he]
      unfold fw2 at none ⊢
      rw [List.findSome?_append, none]
      show List.findSome? (En.freeWrong fr) [e] = _
      rw [List.findSome?_cons]
      cases En.freeWrong fr e <;> rfl
    have whole : ∀ r, En.freeWrong fr e = some r → fw2 S fr = some r := fun r hr => by
      have hi : i < S.length := (List.getElem?_eq_some_iff.mp he).1
      rw [← List.take_append_drop (i + 1) S]
      unfold fw2 at step ⊢
      rw [List.findSome?_append, step, hr]; rfl
    refine ⟨a, _, rfl, ha, rfl, _, _, rfl, _, _, rfl, _, _, rfl, rfl, ?_⟩
    refine headin_read quansL rfl hax eQ ?_
    cases c : decide (wd ∈ quansL) with
    | false =>
      refine iteF' rfl (iteF' rfl ⟨_, _, _, rfl, rfl, ?_⟩)
      rw [step]
      unfold En.freeWrong
      split
      · rename_i b z g' hg
        exact absurd hg (qno c b z g')
      · rfl
    | true =>
      obtain ⟨b, z, g', hg, hz⟩ := qyes c
      refine iteT' rfl ⟨_, rfl, ax, _, 1, _, rfl, rfl, hax, atI_nat (j := 1) hz, _, rfl, D, _, rfl, DGet.k (k := Sum.inr z) eD, _, rfl, ?_⟩
      rw [keysX_val ek z]
      have ew : En.freeWrong fr e = if z ∈ fr then some (e.p, ("free" : Str)) else Option.none := by unfold En.freeWrong; rw [hg]
      cases c2 : decide (z ∈ fr) with
      | false =>
        rw [if_neg (of_decide_eq_false c2)] at ew
        exact iteF' rfl ⟨_, _, _, rfl, rfl, step.trans ew⟩
      | true =>
        rw [if_pos (of_decide_eq_true c2)] at ew
        refine iteT' rfl ⟨_, rfl, by show 2 ≤ sizeLine; decide, fun p np => ?_⟩
        have sp := same_new np (o := .tup [V.ref pa, .str "free"])
        refine q _ _ (s03.trans sp) ?_
        rw [due, whole _ ew]
        exact .tup (SqT.of upd_same) (.cons (.tup (sqT_same sp hpa) (dpAll_pV e.p)) (.cons (.str "free") .nil))
  · obtain ⟨_, _, _, rfl, rfl, none⟩ := pv
    rw [lS, List.take_length] at none
    refine q _ _ s03 ?_
    rw [due, none]
    exact .non
end
end DQ

set_option Elab.async false
set_option linter.all false
set_option maxRecDepth 100000
set_option maxHeartbeats 1000000
namespace DQ
open PySem PySem.Spec PyProof.Rows L2
/-! ### _law_depth -/
abbrev sDepth : Stmt := topS 40
abbrev NDp : List Str := ["question", "part", "inner"]
theorem scDepth : FnScope NDp ["question"] (defScope sDepth) := ⟨rfl, rfl, rfl, by decide +kernel, rfl, by decide +kernel, by decide +kernel⟩
/-- how many quantifiers stand within one another -/
def qd : Qn → Nat
  | .nt a => qd a
  | .cn _ a c => max (qd a) (qd c)
  | .qu _ _ a => qd a + 1
  | _ => 0
def inD : Qn → Nat
  | .nt a => qd a
  | .cn _ a c => max (qd a) (qd c)
  | .qu _ _ a => qd a
  | _ => 0
theorem qd_in (q : Qn) : (inD q : Int) + (if decide (q.word ∈ [("some" : Str), "all"]) = true then 1 else 0) = (qd q : Nat) := by
  cases q with
  | tr b => rw [show decide ((Qn.tr b).word ∈ [("some" : Str), "all"]) = false from (by show decide (trW b ∈ [("some" : Str), "all"]) = false; cases b <;> decide +kernel)]; rfl
  | mk _ _ => rw [show decide ((Qn.mk _ _).word ∈ [("some" : Str), "all"]) = false from (by show decide (("mark" : Str) ∈ [("some" : Str), "all"]) = false; decide +kernel)]; rfl
  | lk _ _ _ => rw [show decide ((Qn.lk _ _ _).word ∈ [("some" : Str), "all"]) = false from (by show decide (("link" : Str) ∈ [("some" : Str), "all"]) = false; decide +kernel)]; rfl
  | sm _ _ => rw [show decide ((Qn.sm _ _).word ∈ [("some" : Str), "all"]) = false from (by show decide (("same" : Str) ∈ [("some" : Str), "all"]) = false; decide +kernel)]; rfl
  | nt a => rw [show decide ((Qn.nt a).word ∈ [("some" : Str), "all"]) = false from (by show decide (("not" : Str) ∈ [("some" : Str), "all"]) = false; decide +kernel)]; exact Int.add_zero _
  | cn b a c => rw [show decide ((Qn.cn b a c).word ∈ [("some" : Str), "all"]) = false from (by show decide (cnW b ∈ [("some" : Str), "all"]) = false; cases b <;> decide +kernel)]; exact Int.add_zero _
  | qu b x a => rw [show decide ((Qn.qu b x a).word ∈ [("some" : Str), "all"]) = true from (by show decide (quW b ∈ [("some" : Str), "all"]) = true; cases b <;> decide +kernel)]; rfl
section
variable {P : Program} {w : World} {K : PySem.W.Frag} {mg : Str → Option Value} {base : Heap}
def spDepth (K : PySem.W.Frag) (N : Nat) : Sp := fun vs H Q _ => ∃ (v : V) (q : Qn), vs = [v] ∧ Dp K H v q.d ∧ q.dep < N ∧ q.sz ≤ 1000 ∧ ∀ H', Same H H' → Q (.int (qd q : Nat)) H'
def depsV (qs : List Qn) : List Int := qs.map fun q => (qd q : Int)
theorem deps_loop {N : Nat} {σ : L2.St} {H : Hp} {R : Hp → Prop} {s D : Addr} {its : List (V × Option Qn)} (hσ : ∀ x : V, wipe ((wipe σ [1]).set 1 (some x)) [1] = wipe σ [1] ∧ ((wipe σ [1]).set 1 (some x))[1]? = some (some x)) (hs : SqT K H s (its.map (·.1))) (ok : ∀ z ∈ its, PartOk K H N z) (few : its.length ≤ 10) (nD : H D = none) (q : ∀ H', Same H H' → H' D = some (.lst ((depsV (its.filterMap (·.2))).map V.int)) → R H') :
    ∃ W : Nat → Nat → Hp → Prop, (∃ m, W 0 m (upd H D (.lst []))) ∧ ∀ i m H, W i m H →
      ((Itt K s).stop i H ∧ R H) ∨ ((Itt K s).go i H ∧ ∃ Nx : Hp → Prop, (∀ H', Nx H' → ∃ m', m' < m ∧ W (i + 1) m' H') ∧ ∀ x H', (Itt K s).yld i H x H' → gName 1 x (wipe σ [1]) H' fun σ2 H2 => wipe σ2 [1] = wipe σ [1] ∧ (tB (tCB (rIsi K) (tCons (tVar 1) (tCons (tC (V.ty "tuple")) tNil)))) σ2 H2 fun b H3 =>
        if b = true then tCall (spDepth K N) [] E0 (tCons (tVar 1) tNil) σ2 H3 fun y H4 => ∃ acc, H4 D = some (.lst acc) ∧ acc.length < sizeLine ∧ Nx (upd H4 D (.lst (acc ++ [y]))) else Nx H3) := by
  refine lc_tup (xs := its.map (·.1)) (fun i H' => Same H H' ∧ H' D = some (.lst ((depsV ((its.take i).filterMap (·.2))).map V.int))) ⟨same_new nD, upd_same⟩ (fun i H' _ g => sqT_same g.1 hs) (fun i x H' hx g => ?_) fun H' g => q H' g.1 (by rw [List.length_map, List.take_length] at g; exact g.2)
  rw [List.getElem?_map] at hx
  obtain ⟨z, hz, rfl⟩ := Option.map_eq_some_iff.mp hx
  have okz := (ok z (List.mem_of_getElem? hz)).same g.1
  have tk : its.take (i + 1) = its.take i ++ [z] := by rw [List.take_succ, hz]; rfl
  obtain ⟨w1, w2⟩ := hσ z.1
  refine ⟨w1, ?_⟩
  obtain ⟨v, o⟩ := z
  cases o with
  | none =>
    obtain ⟨x, rfl⟩ := okz
    refine ⟨_, w2, .str x, .ty "tuple", _, _, _, rfl, .ty "tuple", dp_ty (.str x), kit_data (by simp) (.str x), _, rfl, iteF' (by simp only [isT, tyN]; decide) ?_⟩
    show _ ∧ _
    rw [tk, List.filterMap_append]
    simpa using g
  | some qn =>
    obtain ⟨dpz, dz, sz⟩ := okz
    have ty : isT "tuple" qn.d = true := by cases qn <;> (simp only [Qn.d, isT, tyN]; decide)
    refine ⟨_, w2, v, .ty "tuple", _, _, _, rfl, .ty "tuple", dp_ty dpz, kit_data (by simp) qn.d, _, rfl, iteT' ty ⟨v, w2, ?_⟩⟩
    refine nil_read ?_
    show spDepth K N [v] H' _ _
    refine ⟨v, qn, rfl, dpz, dz, sz, fun H2 s2 => ⟨_, s2 _ _ g.2, ?_, same_upd (g.1.trans s2) nD, ?_⟩⟩
    · unfold depsV
      rw [List.length_map, List.length_map, sizeLine_eq]
      have := List.length_filterMap_le (fun z : V × Option Qn => z.2) (its.take i)
      rw [List.length_take] at this
      omega
    · rw [upd_same, tk, List.filterMap_append]
      unfold depsV
      rw [List.map_append, List.map_append]
      rfl
theorem depth_items {H : Hp} {a : Addr} {N : Nat} {q : Qn} (dp : Dp K H (.ref a) q.d) (dep : q.dep < N + 1) (sz : q.sz ≤ 1000) :
    ∃ its : List (V × Option Qn), SqT K H a (.str q.word :: its.map (·.1)) ∧ (∀ z ∈ its, PartOk K H N z) ∧ its.length ≤ 10 ∧ (∀ y ∈ (0 : Int) :: depsV (its.filterMap (·.2)), y ≤ inD q) ∧ (inD q : Int) ∈ (0 : Int) :: depsV (its.filterMap (·.2)) := by
  by_cases h1 : q.word ∈ [("true" : Str), "false"] ∨ q.word ∈ [("mark" : Str), "link", "same"]
  · have txt : ∀ {xs : List V} {ds : List PyData}, DpAll K H xs ds → (∀ d ∈ ds, ∃ x, d = .str x) → ∃ its : List (V × Option Qn), xs = its.map (·.1) ∧ (∀ z ∈ its, z.2 = none ∧ ∃ x, z.1 = .str x) := fun {xs} => by
      induction xs with
      | nil => exact fun _ _ => ⟨[], rfl, fun z hz => by cases hz⟩
      | cons v xs ih =>
        intro ds h hd
        cases h with
        | cons a r =>
        obtain ⟨its, e, ok⟩ := ih r fun d hx => hd d (List.mem_cons_of_mem _ hx)
        obtain ⟨x, ex⟩ := hd _ List.mem_cons_self
        subst ex
        cases a
        exact ⟨(.str x, none) :: its, by rw [List.map_cons, ← e], fun z hz => by
          rcases List.mem_cons.mp hz with rfl | hz
          · exact ⟨rfl, x, rfl⟩
          · exact ok z hz⟩
    have fin : ∀ {xs : List V} {ds : List PyData}, SqT K H a (.str q.word :: xs) → DpAll K H xs ds → (∀ d ∈ ds, ∃ x, d = .str x) → xs.length ≤ 10 → inD q = 0 → ∃ its : List (V × Option Qn), SqT K H a (.str q.word :: its.map (·.1)) ∧ (∀ z ∈ its, PartOk K H N z) ∧ its.length ≤ 10 ∧ (∀ y ∈ (0 : Int) :: depsV (its.filterMap (·.2)), y ≤ inD q) ∧ (inD q : Int) ∈ (0 : Int) :: depsV (its.filterMap (·.2)) := fun {xs ds} hT r hd few e0 => by
      obtain ⟨its, e, ok⟩ := txt r hd
      have none0 : its.filterMap (·.2) = [] := List.filterMap_eq_nil_iff.mpr fun z hz => (ok z hz).1
      refine ⟨its, by rw [← e]; exact hT, fun z hz => ?_, by rw [e, List.length_map] at few; exact few, ?_, ?_⟩
      · obtain ⟨v, o⟩ := z
        obtain ⟨rfl, h⟩ := ok _ hz
        exact h
      · rw [none0, e0]
        intro y hy
        rcases List.mem_cons.mp hy with rfl | hy
        · exact Int.le_refl _
        · cases hy
      · rw [e0]; exact List.mem_cons_self
    cases q with
    | tr b => cases dp with | tup hT r => cases r with | cons g1 r => cases g1; exact fin hT r (fun d hd => by cases hd) (by cases r; exact Nat.zero_le _) rfl
    | mk m x => cases dp with | tup hT r => cases r with | cons g1 r => cases g1; exact fin hT r (fun d hd => by simp only [List.mem_cons, List.not_mem_nil, or_false] at hd; rcases hd with rfl | rfl <;> exact ⟨_, rfl⟩) (by cases r with | cons _ r => cases r with | cons _ r => cases r; show 2 ≤ 10; decide) rfl
    | lk c x y => cases dp with | tup hT r => cases r with | cons g1 r => cases g1; exact fin hT r (fun d hd => by simp only [List.mem_cons, List.not_mem_nil, or_false] at hd; rcases hd with rfl | rfl | rfl <;> exact ⟨_, rfl⟩) (by cases r with | cons _ r => cases r with | cons _ r => cases r with | cons _ r => cases r; show 3 ≤ 10; decide) rfl
    | sm x y => cases dp with | tup hT r => cases r with | cons g1 r => cases g1; exact fin hT r (fun d hd => by simp only [List.mem_cons, List.not_mem_nil, or_false] at hd; rcases hd with rfl | rfl <;> exact ⟨_, rfl⟩) (by cases r with | cons _ r => cases r with | cons _ r => cases r; show 2 ≤ 10; decide) rfl
    | nt b => exact absurd (show ("not" : Str) ∈ [("true" : Str), "false"] ∨ ("not" : Str) ∈ [("mark" : Str), "link", "same"] from h1) (by decide +kernel)
    | cn b _ _ => exact absurd (show cnW b ∈ [("true" : Str), "false"] ∨ cnW b ∈ [("mark" : Str), "link", "same"] from h1) (by cases b <;> decide +kernel)
    | qu b _ _ => exact absurd (show quW b ∈ [("true" : Str), "false"] ∨ quW b ∈ [("mark" : Str), "link", "same"] from h1) (by cases b <;> decide +kernel)
  · obtain ⟨i1, i2⟩ := not_or.mp h1
    cases q with
    | tr b => exact absurd (show trW b ∈ [("true" : Str), "false"] by cases b <;> decide +kernel) i1
    | mk _ _ => exact absurd (show ("mark" : Str) ∈ [("mark" : Str), "link", "same"] by decide +kernel) i2
    | lk _ _ _ => exact absurd (show ("link" : Str) ∈ [("mark" : Str), "link", "same"] by decide +kernel) i2
    | sm _ _ => exact absurd (show ("same" : Str) ∈ [("mark" : Str), "link", "same"] by decide +kernel) i2
    | nt b =>
      cases dp with | tup hT r =>
      cases r with | @cons v1 _ _ _ g1 r =>
      cases r with | @cons v2 _ _ _ g2 r =>
      cases g1; cases r
      have dep : b.dep + 1 < N + 1 := dep
      have sz : b.sz + 1 ≤ 1000 := sz
      refine ⟨[(v2, some b)], hT, fun z hz => ?_, by show 1 ≤ 10; decide, ?_, by show (qd b : Int) ∈ [0, (qd b : Int)]; simp⟩
      · rw [List.mem_singleton.mp hz]
        exact ⟨g2, by omega, by omega⟩
      · show ∀ y ∈ [(0 : Int), (qd b : Int)], y ≤ (qd b : Int)
        intro y hy
        simp only [List.mem_cons, List.not_mem_nil, or_false] at hy
        omega
    | cn w b c =>
      cases dp with | tup hT r =>
      cases r with | @cons v1 _ _ _ g1 r =>
      cases r with | @cons v2 _ _ _ g2 r =>
      cases r with | @cons v3 _ _ _ g3 r =>
      cases g1; cases r
      have dep : max b.dep c.dep + 1 < N + 1 := dep
      have sz : b.sz + c.sz + 1 ≤ 1000 := sz
      refine ⟨[(v2, some b), (v3, some c)], hT, fun z hz => ?_, by show 2 ≤ 10; decide, ?_, ?_⟩
      · simp only [List.mem_cons, List.not_mem_nil, or_false] at hz
        rcases hz with rfl | rfl
        · exact ⟨g2, by omega, by omega⟩
        · exact ⟨g3, by omega, by omega⟩
      · show ∀ y ∈ [(0 : Int), (qd b : Int), (qd c : Int)], y ≤ ((max (qd b) (qd c) : Nat) : Int)
        intro y hy
        simp only [List.mem_cons, List.not_mem_nil, or_false] at hy
        omega
      · show ((max (qd b) (qd c) : Nat) : Int) ∈ [(0 : Int), (qd b : Int), (qd c : Int)]
        simp only [List.mem_cons, List.not_mem_nil, or_false]
        omega
    | qu w y b =>
      cases dp with | tup hT r =>
      cases r with | @cons v1 _ _ _ g1 r =>
      cases r with | @cons v2 _ _ _ g2 r =>
      cases r with | @cons v3 _ _ _ g3 r =>
      cases g1; cases g2; cases r
      have dep : b.dep + 1 < N + 1 := dep
      have sz : b.sz + 1 ≤ 1000 := sz
      refine ⟨[(.str y, none), (v3, some b)], hT, fun z hz => ?_, by show 2 ≤ 10; decide, ?_, by show (qd b : Int) ∈ [0, (qd b : Int)]; simp⟩
      · simp only [List.mem_cons, List.not_mem_nil, or_false] at hz
        rcases hz with rfl | rfl
        · exact ⟨y, rfl⟩
        · exact ⟨g3, by omega, by omega⟩
      · show ∀ y ∈ [(0 : Int), (qd b : Int)], y ≤ (qd b : Int)
        intro y hy
        simp only [List.mem_cons, List.not_mem_nil, or_false] at hy
        omega
end
end DQ

set_option Elab.async false
set_option linter.all false
set_option maxRecDepth 100000
set_option maxHeartbeats 1000000
namespace DQ
open PySem PySem.Spec PyProof.Rows L2
section
variable {P : Program} {w : World} {K : PySem.W.Frag} {mg : Str → Option Value} {base : Heap}
theorem depth_none {f : Addr} {fd : FuncData} (F : Fun K "_law_depth" "_law_depth" sDepth f fd) : FnOk P w K mg base CX0 5 f fd ["question"] (spDepth K 0) := by
  refine F.ok scDepth (fun vs H Q E h => ?_) (fun cdv A outer s H vs Q E hr h => ?_)
  · obtain ⟨_, _, rfl, _⟩ := h
    rfl
  · obtain ⟨_, _, _, _, h, _⟩ := h
    exact absurd h (Nat.not_lt_zero _)
theorem depth_step {N : Nat} {f : Addr} {fd : FuncData} (F : Fun K "_law_depth" "_law_depth" sDepth f fd) (GI : FnOk P w K mg base CX0 (N + 5) f fd ["question"] (spDepth K N)) (bI : Binds K fd ["question"] []) (kI : PySem.W.keepIn K (.ref f) = true) (mI : mg "_law_depth" = some (.ref f))
    (mMax : mg "max" = none) (mInt : mg "int" = none) (mIs : mg "isinstance" = none) (mTuple : mg "tuple" = none) : FnOk P w K mg base CX0 (N + 6) f fd ["question"] (spDepth K (N + 1)) := by
  refine F.ok scDepth (fun vs H Q E h => ?_) (fun cdv A outer s H vs Q E hr h => ?_)
  · obtain ⟨_, _, rfl, _⟩ := h
    rfl
  obtain ⟨v, q, rfl, dp, dep, sz, ret⟩ := h
  have nd := scDepth.nd
  refine ⟨_, pss_cons (ps_set (i := 2) nd rfl (.inl rfl) (pe_callB (r := rMax K) (cr_max rfl) (by rfl) mMax (by decide +kernel) (pa_cons (pe_op op_cat (pe_lst (pa_cons pe_int pa_nil))
      (pe_lc (own := [("part", 1)]) (g := gName 1) rfl nd (pi_tup (pe_slice (r := rSlT K) sl_tup (pv 0) (po_some pe_int) po_none)) (blkOk_by (own := [("part", 1)]) (N := NDp) (sc := defScope sDepth) (by decide +kernel)) (fun _ _ _ _ _ => pg_name (i := 1) nd rfl (Or.inl rfl))
        (fun _ _ _ _ _ => pts_one (pt_val (pe_callB (id := "isinstance") (r := rIsi K) call_isi (by rfl) mIs (by decide +kernel) (pa_cons (pv 1) (pa_cons (pe_bltn (v := .ty "tuple") (by rfl) mTuple (by decide +kernel) rfl) pa_nil)))))
        (fun _ _ _ _ _ => pe_call GI (hr.mono (by omega)) rfl mI kI bI .nil pass0 (pa_cons (pv 1) pa_nil)))) pa_nil)))
    (pss_one (ps_ret (pe_op op_add (pv 2) (pe_callTy call_int1 (by rfl) mInt (by decide +kernel) (pa_cons (pe_cmpR (r := rIn K false) op_in_seq (pe_ix (r := rIxT K) ix_tup (pv 0) pe_int (fun _ _ => rfl)) (pe_lst (pa_cons pe_str (pa_cons pe_str pa_nil))) (by with_unfolding_all rfl)) pa_nil))))), ?_⟩
  obtain ⟨a, rest, rfl, hT⟩ := word_at dp
  obtain ⟨its, hits, okI, fewI, mx, mem⟩ := depth_items dp dep sz
  refine seq_te (fun x H' => x = .int (inD q : Nat) ∧ Same H H') (fun R hR => ?_) fun x H5 ⟨ex, s5⟩ => ?_
  · refine ⟨by show 1 ≤ sizeLine; decide, fun p0 n0 => ?_⟩
    have s0 := same_new n0 (o := .lst [V.int 0])
    have e0 : L2.upd H p0 (.lst [V.int 0]) p0 = some (.lst [V.int 0]) := upd_same
    generalize L2.upd H p0 (.lst [V.int 0]) = H0 at s0 e0 ⊢
    have neI : ¬ (HT.sIx (V.str q.word :: its.map (·.1)).length 0 (some 1) = 0 ∧ HT.sIx (V.str q.word :: its.map (·.1)).length (V.str q.word :: its.map (·.1)).length none = (V.str q.word :: its.map (·.1)).length) := fun ⟨z, _⟩ => by
      rw [show HT.sIx (V.str q.word :: its.map (·.1)).length 0 (some 1) = min 1 (V.str q.word :: its.map (·.1)).length from HT.sIx_nat _ 0 1, List.length_cons] at z
      omega
    refine ⟨_, rfl, 1, rfl, a, _, rfl, sqT_same s0 hits, neI, fun l nl => ?_⟩
    rw [cut_one]
    have sl := same_new nl (o := .tup (its.map (·.1)))
    refine ⟨l, rfl, ⟨_, SqT.of upd_same⟩, fun D nD => ?_⟩
    refine deps_loop (s := l) (its := its) (N := N) (fun x => ⟨rfl, rfl⟩) (SqT.of upd_same) (fun z hz => (okI z hz).same (s0.trans sl)) fewI nD fun H' sm eD => ?_
    have lenD : (depsV (its.filterMap (·.2))).length ≤ 10 := by
      unfold depsV
      rw [List.length_map]
      exact Nat.le_trans (List.length_filterMap_le _ _) fewI
    refine ⟨p0, D, _, _, rfl, rfl, sm _ _ (sl _ _ e0), eD, by rw [List.length_map, sizeLine_eq]; show 1 + _ ≤ _; omega, fun p np => ?_⟩
    refine nil_read ?_
    have sp := same_new np (o := .lst ([V.int 0] ++ (depsV (its.filterMap (·.2))).map V.int))
    refine ⟨p, (0 : Int) :: depsV (its.filterMap (·.2)), rfl, SqL.of upd_same, Nat.succ_pos _, fun m hm hx => ?_⟩
    have e : m = (inD q : Int) := Int.le_antisymm (mx m hm) (hx _ mem)
    rw [e]
    exact hR _ _ ⟨rfl, ((s0.trans sl).trans sm).trans sp⟩
  subst ex
  show tRet _ _ [some (V.ref a), none, some (.int (inD q : Nat))] H5
  refine ⟨_, rfl, _, rfl, a, _, 0, _, rfl, rfl, sqT_same s5 hT, atI_nat (j := 0) rfl, by show 2 ≤ sizeLine; decide, fun p np => ?_⟩
  have sp := same_new np (o := .lst [V.str "some", V.str "all"])
  refine ⟨p, [V.str "some", V.str "all"], rfl, .inl (SqL.of upd_same), rfl, rfl, .inr ⟨_, rfl, _, _, rfl, rfl, ?_⟩⟩
  have fin := ret _ (s5.trans sp)
  rw [← qd_in q] at fin
  rw [show inV (V.str q.word) [V.str "some", V.str "all"] = decide (q.word ∈ [("some" : Str), "all"]) from inV_words q.word ["some", "all"]]
  exact fin
theorem ok_depth {f : Addr} {fd : FuncData} (F : Fun K "_law_depth" "_law_depth" sDepth f fd) (bI : Binds K fd ["question"] []) (kI : PySem.W.keepIn K (.ref f) = true) (mI : mg "_law_depth" = some (.ref f))
    (mMax : mg "max" = none) (mInt : mg "int" = none) (mIs : mg "isinstance" = none) (mTuple : mg "tuple" = none) : ∀ N : Nat, FnOk P w K mg base CX0 (N + 5) f fd ["question"] (spDepth K N)
  | 0 => depth_none F
  | N + 1 => depth_step F (ok_depth F bI kI mI mMax mInt mIs mTuple N) bI kI mI mMax mInt mIs mTuple
end
end DQ

set_option Elab.async false
set_option linter.all false
set_option maxRecDepth 100000
set_option maxHeartbeats 1000000
namespace DQ
open PySem PySem.Spec PyProof.Rows L2
/-! ### depth, marks and columns by what was looked at -/
def depE (e : En) : Option Int := match e.g with
  | .qu _ _ _ => some ((e.ar.length : Nat) + 1)
  | _ => none
def depsE (S : List En) : List Int := S.filterMap depE
def markG : Gn → Option Str
  | .mk m _ => some m
  | _ => none
def linkG : Gn → Option Str
  | .lk c _ _ => some c
  | _ => none
/-- what stands behind a word, where the word is this one -/
def WordAt (wd : Str) (fn : Gn → Option Str) : Prop := ∀ (g : Gn) (ar : List Str) (w : Str) (r : List PyData), g.ok → whyG g ar = none → g.d = .tuple (.str w :: r) → (w = wd → ∃ m, fn g = some m ∧ r[0]? = some (.str m)) ∧ (w ≠ wd → fn g = none)
theorem tup_inj {w w' : Str} {r r' : List PyData} (h : PyData.tuple (.str w :: r) = .tuple (.str w' :: r')) : w = w' ∧ r = r' := by
  injection h with h
  injection h with h1 h2
  injection h1 with h1
  exact ⟨h1, h2⟩
theorem word_mark : WordAt "mark" markG := fun g ar w r ok why e => by
  cases g with
  | bad d =>
    have z : whyQ d ar = none := why
    rw [why_bad ok] at z
    split at z <;> cases z
  | mk m x => obtain ⟨rfl, rfl⟩ := tup_inj e; exact ⟨fun _ => ⟨m, rfl, rfl⟩, fun h => absurd rfl h⟩
  | tr b => obtain ⟨rfl, rfl⟩ := tup_inj e; exact ⟨fun h => absurd h (by cases b <;> decide +kernel), fun _ => rfl⟩
  | lk c x y => obtain ⟨rfl, rfl⟩ := tup_inj e; exact ⟨fun h => absurd h (by decide +kernel), fun _ => rfl⟩
  | sm x y => obtain ⟨rfl, rfl⟩ := tup_inj e; exact ⟨fun h => absurd h (by decide +kernel), fun _ => rfl⟩
  | nt a => obtain ⟨rfl, rfl⟩ := tup_inj e; exact ⟨fun h => absurd h (by decide +kernel), fun _ => rfl⟩
  | cn b a c => obtain ⟨rfl, rfl⟩ := tup_inj e; exact ⟨fun h => absurd h (by cases b <;> decide +kernel), fun _ => rfl⟩
  | qu b x a => obtain ⟨rfl, rfl⟩ := tup_inj e; exact ⟨fun h => absurd h (by cases b <;> decide +kernel), fun _ => rfl⟩
theorem word_link : WordAt "link" linkG := fun g ar w r ok why e => by
  cases g with
  | bad d =>
    have z : whyQ d ar = none := why
    rw [why_bad ok] at z
    split at z <;> cases z
  | lk m x y => obtain ⟨rfl, rfl⟩ := tup_inj e; exact ⟨fun _ => ⟨m, rfl, rfl⟩, fun h => absurd rfl h⟩
  | tr b => obtain ⟨rfl, rfl⟩ := tup_inj e; exact ⟨fun h => absurd h (by cases b <;> decide +kernel), fun _ => rfl⟩
  | mk c x => obtain ⟨rfl, rfl⟩ := tup_inj e; exact ⟨fun h => absurd h (by decide +kernel), fun _ => rfl⟩
  | sm x y => obtain ⟨rfl, rfl⟩ := tup_inj e; exact ⟨fun h => absurd h (by decide +kernel), fun _ => rfl⟩
  | nt a => obtain ⟨rfl, rfl⟩ := tup_inj e; exact ⟨fun h => absurd h (by decide +kernel), fun _ => rfl⟩
  | cn b a c => obtain ⟨rfl, rfl⟩ := tup_inj e; exact ⟨fun h => absurd h (by cases b <;> decide +kernel), fun _ => rfl⟩
  | qu b x a => obtain ⟨rfl, rfl⟩ := tup_inj e; exact ⟨fun h => absurd h (by cases b <;> decide +kernel), fun _ => rfl⟩
/-- the words of this kind that stand in it, once, in order -/
def signsQ (fn : Gn → Option Str) (g : Gn) : List Str := sortX (firstsX ((preG g [] []).filterMap fun e => fn e.g))
theorem deps_pre : ∀ (q : Qn) (p : List Nat) (ar : List Str), (qd q = 0 ∧ depsE (preG (Gn.ofQ q) p ar) = []) ∨ (1 ≤ qd q ∧ ((ar.length + qd q : Nat) : Int) ∈ depsE (preG (Gn.ofQ q) p ar) ∧ ∀ y ∈ depsE (preG (Gn.ofQ q) p ar), y ≤ ((ar.length + qd q : Nat) : Int))
  | .tr _, _, _ => .inl ⟨rfl, rfl⟩
  | .mk _ _, _, _ => .inl ⟨rfl, rfl⟩
  | .lk _ _ _, _, _ => .inl ⟨rfl, rfl⟩
  | .sm _ _, _, _ => .inl ⟨rfl, rfl⟩
  | .nt a, p, ar => deps_pre a (p ++ [0]) ar
  | .cn b a c, p, ar => by
    have e : depsE (preG (Gn.ofQ (.cn b a c)) p ar) = depsE (preG (Gn.ofQ a) (p ++ [0]) ar) ++ depsE (preG (Gn.ofQ c) (p ++ [1]) ar) := by
      show depsE (_ :: (_ ++ _)) = _
      unfold depsE
      rw [List.filterMap_cons_none rfl, List.filterMap_append]
    have q : qd (.cn b a c) = max (qd a) (qd c) := rfl
    rw [e, q]
    rcases deps_pre a (p ++ [0]) ar with ⟨h1, h2⟩ | ⟨h1, h2, h3⟩ <;> rcases deps_pre c (p ++ [1]) ar with ⟨g1, g2⟩ | ⟨g1, g2, g3⟩
    · exact .inl ⟨by omega, by rw [h2, g2]; rfl⟩
    · refine .inr ⟨by omega, ?_, ?_⟩
      · rw [show max (qd a) (qd c) = qd c by omega]; exact List.mem_append_right _ g2
      · intro y hy
        rw [h2, List.nil_append] at hy
        have := g3 y hy
        omega
    · refine .inr ⟨by omega, ?_, ?_⟩
      · rw [show max (qd a) (qd c) = qd a by omega]; exact List.mem_append_left _ h2
      · intro y hy
        rw [g2, List.append_nil] at hy
        have := h3 y hy
        omega
    · refine .inr ⟨by omega, ?_, ?_⟩
      · by_cases z : qd a ≤ qd c
        · rw [show max (qd a) (qd c) = qd c by omega]; exact List.mem_append_right _ g2
        · rw [show max (qd a) (qd c) = qd a by omega]; exact List.mem_append_left _ h2
      · intro y hy
        rcases List.mem_append.mp hy with hy | hy
        · have := h3 y hy; omega
        · have := g3 y hy; omega
  | .qu b x a, p, ar => by
    have e : depsE (preG (Gn.ofQ (.qu b x a)) p ar) = ((ar.length : Nat) + 1 : Int) :: depsE (preG (Gn.ofQ a) (p ++ [0]) (ar ++ [x])) := by
      show List.filterMap depE (_ :: _) = _
      exact List.filterMap_cons_some (f := depE) (b := ((ar.length : Nat) + 1 : Int)) rfl
    have q : qd (.qu b x a) = qd a + 1 := rfl
    rw [e, q]
    rcases deps_pre a (p ++ [0]) (ar ++ [x]) with ⟨h1, h2⟩ | ⟨h1, h2, h3⟩
    · refine .inr ⟨by omega, ?_, ?_⟩
      · rw [h1]; exact List.mem_cons_self
      · intro y hy
        rw [h2] at hy
        rw [List.mem_singleton.mp hy]; omega
    · rw [List.length_append, List.length_singleton] at h2 h3
      refine .inr ⟨by omega, ?_, ?_⟩
      · rw [show ar.length + (qd a + 1) = ar.length + 1 + qd a by omega]
        exact List.mem_cons_of_mem _ h2
      · intro y hy
        rcases List.mem_cons.mp hy with rfl | hy
        · omega
        · have := h3 y hy; omega
theorem foldl_max : ∀ (r : List Int) (n : Int), (r.foldl max n) ∈ n :: r ∧ ∀ y ∈ n :: r, y ≤ r.foldl max n
  | [], n => ⟨List.mem_singleton.mpr rfl, fun y hy => by rw [List.mem_singleton.mp hy]; exact Int.le_refl _⟩
  | k :: r, n => by
    obtain ⟨h1, h2⟩ := foldl_max r (max n k)
    rw [List.foldl_cons]
    refine ⟨?_, fun y hy => ?_⟩
    · rcases List.mem_cons.mp h1 with h | h
      · rw [h]
        by_cases z : n ≤ k
        · rw [show max n k = k by omega]; exact List.mem_cons_of_mem _ List.mem_cons_self
        · rw [show max n k = n by omega]; exact List.mem_cons_self
      · exact List.mem_cons_of_mem _ (List.mem_cons_of_mem _ h)
    · have hm := h2 (max n k) List.mem_cons_self
      rcases List.mem_cons.mp hy with rfl | hy
      · omega
      · rcases List.mem_cons.mp hy with rfl | hy
        · omega
        · exact h2 y (List.mem_cons_of_mem _ hy)
theorem depth_pre (q : Qn) : maxOf 0 (depsE (preG (Gn.ofQ q) [] [])) = (qd q : Nat) := by
  rcases deps_pre q [] [] with ⟨h1, h2⟩ | ⟨h1, h2, h3⟩
  · rw [h2, h1]; rfl
  · revert h2 h3
    generalize depsE (preG (Gn.ofQ q) [] []) = L
    intro h2 h3
    cases L with
    | nil => cases h2
    | cons n r =>
      obtain ⟨g1, g2⟩ := foldl_max r n
      have a := g2 _ h2
      have b := h3 _ g1
      simp only [List.length_nil, Nat.zero_add] at a b
      exact Int.le_antisymm b a
end DQ

set_option Elab.async false
set_option linter.all false
set_option maxRecDepth 100000
set_option maxHeartbeats 1000000
namespace DQ
open PySem PySem.Spec PyProof.Rows L2
/-- a comprehension with a test; what each turn gives, if it gives anything, is told ahead -/
theorem lc_opts {J : It} {n : Nat} {G : Hp → Prop} {Y : Nat → Hp → V → Hp → Prop} (w : Walk J n G Y) {g : TG} {tt : TT} {te : TE} {vs : List Nat} {σ : L2.St} {H1 : Hp} {D : Addr} {Qd : Hp → Prop} (os : List (Option V)) (hn : os.length = n) (few : n < sizeLine) (nD : H1 D = none)
    (hG : ∀ H, Same H1 H → G H) (hY : ∀ i H x H', Y i H x H' → Same H H')
    (hs : ∀ i x H H' o, i < n → os[i]? = some o → Same H1 H → Y i H x H' → ∀ (R : V → Hp → Prop) (N : Hp → Prop), (∀ v H4, o = some v → Same H' H4 → R v H4) → (o = none → ∀ H4, Same H' H4 → N H4) →
      g x (wipe σ vs) H' fun σ2 H2 => wipe σ2 vs = wipe σ vs ∧ tt σ2 H2 fun b H3 => if b = true then te σ2 H3 R else N H3)
    (hd : ∀ H, Same H1 H → H D = some (.lst (os.filterMap id)) → Qd H) :
    ∃ W : Nat → Nat → Hp → Prop, (∃ m, W 0 m (upd H1 D (.lst []))) ∧ ∀ i m H, W i m H →
      (J.stop i H ∧ Qd H) ∨ (J.go i H ∧ ∃ Nx : Hp → Prop, (∀ H', Nx H' → ∃ m', m' < m ∧ W (i + 1) m' H') ∧ ∀ x H', J.yld i H x H' → g x (wipe σ vs) H' fun σ2 H2 => wipe σ2 vs = wipe σ vs ∧ tt σ2 H2 fun b H3 =>
        if b = true then te σ2 H3 fun y H4 => ∃ acc, H4 D = some (.lst acc) ∧ acc.length < sizeLine ∧ Nx (upd H4 D (.lst (acc ++ [y]))) else Nx H3) := by
  refine lc_it w (fun i H => H D = some (.lst ((os.take i).filterMap id)) ∧ Same H1 H) ⟨upd_same, same_new nD⟩ (fun i H _ p => hG H p.2) (fun i x H H' hi p y => ?_) fun H p => hd H p.2 (by rw [← hn, List.take_length] at p; exact p.1)
  obtain ⟨e, s⟩ := p
  have ho : os[i]? = some os[i] := List.getElem?_eq_getElem (by omega)
  have tn : (os.take (i + 1)).filterMap id = (os.take i).filterMap id ++ (match os[i] with | some v => [v] | none => []) := by
    rw [take_next ho, List.filterMap_append, List.filterMap_cons]
    cases os[i] <;> rfl
  refine hs i x H H' _ hi ho s y _ _ (fun v H4 ev s4 => ?_) fun en H4 s4 => ?_
  · have e4 := s4 _ _ (hY _ _ _ _ y _ _ e)
    refine ⟨_, e4, ?_, ?_, same_upd ((s.trans (hY _ _ _ _ y)).trans s4) nD⟩
    · have := List.length_filterMap_le id (os.take i)
      have := List.length_take_le i os
      omega
    · rw [tn, ev]
      exact upd_same
  · refine ⟨?_, (s.trans (hY _ _ _ _ y)).trans s4⟩
    rw [tn, en, List.append_nil]
    exact s4 _ _ (hY _ _ _ _ y _ _ e)
end DQ

set_option Elab.async false
set_option linter.all false
set_option maxRecDepth 100000
set_option maxHeartbeats 1000000
namespace DQ
open PySem PySem.Spec PyProof.Rows L2
/-! ### is_question, check_question, seen_in, free_names, depth -/
abbrev sIsQ : Stmt := topS 23
abbrev sCheckQ : Stmt := topS 24
abbrev sSeenIn : Stmt := topS 25
abbrev sFreeN : Stmt := topS 26
abbrev sDepIn : Stmt := topS 27
abbrev sDep : Stmt := topS 28
abbrev NSi : List Str := ["question", "seen", "_"]
abbrev NDi : List Str := ["seen", "one", "_", "around"]
theorem scIsQ : FnScope ["value"] ["value"] (defScope sIsQ) := ⟨rfl, rfl, rfl, by decide +kernel, rfl, by decide +kernel, by decide +kernel⟩
theorem scCheckQ : FnScope ["question"] ["question"] (defScope sCheckQ) := ⟨rfl, rfl, rfl, by decide +kernel, rfl, by decide +kernel, by decide +kernel⟩
theorem scSeenIn : FnScope NSi ["question"] (defScope sSeenIn) := ⟨rfl, rfl, rfl, by decide +kernel, rfl, by decide +kernel, by decide +kernel⟩
theorem scFreeN : FnScope ["question"] ["question"] (defScope sFreeN) := ⟨rfl, rfl, rfl, by decide +kernel, rfl, by decide +kernel, by decide +kernel⟩
theorem scDepIn : FnScope NDi ["seen"] (defScope sDepIn) := ⟨rfl, rfl, rfl, by decide +kernel, rfl, by decide +kernel, by decide +kernel⟩
theorem scDep : FnScope ["question"] ["question"] (defScope sDep) := ⟨rfl, rfl, rfl, by decide +kernel, rfl, by decide +kernel, by decide +kernel⟩
/-- a statement that is never reached -/
theorem ps_dead {X : Cx} {st : Stmt} : PS X st (fun _ _ _ => False) := ⟨fun _ _ _ _ _ _ h => h.elim⟩
section
variable {P : Program} {w : World} {K : PySem.W.Frag} {mg : Str → Option Value} {base : Heap}
def spIsQ (K : PySem.W.Frag) : Sp := fun vs H Q _ => ∃ (v : V) (g : Gn), vs = [v] ∧ Dp K H v g.d ∧ g.good ∧ g.sz ≤ 1000 ∧ ∀ H', Same H H' → Q (.bl (decide (dueG g = none))) H'
theorem ok_isQ {f fW : Addr} {fd dW : FuncData} (F : Fun K "is_question" "is_question" sIsQ f fd) (GW : FnOk P w K mg base CX0 5 fW dW ["value"] (spFirst K)) (bW : Binds K dW ["value"] []) (kW : PySem.W.keepIn K (.ref fW) = true) (mW : mg "first_wrong" = some (.ref fW)) : FnOk P w K mg base CX0 6 f fd ["value"] (spIsQ K) := by
  refine F.ok scIsQ (fun vs H Q E h => ?_) (fun cdv A outer s H vs Q E hr h => ?_)
  · obtain ⟨_, _, rfl, _⟩ := h
    rfl
  obtain ⟨v, g, rfl, hd, good, size, q⟩ := h
  refine ⟨_, (pss_one (ps_ret (pe_cmpR op_isN (pe_call GW (hr.mono (by decide)) rfl mW kW bW .nil pass0 (pa_cons (pv 0) pa_nil)) pe_non (nomark _)))), ?_⟩
  refine ⟨v, rfl, nil_read (show spFirst K [v] H _ E0 from ⟨v, g, rfl, hd, good, size, fun x H' s1 dx => ⟨rfl, ?_⟩⟩)⟩
  cases hx : dueG g with
  | none =>
    rw [hx] at dx
    cases dx
    have := q H' s1
    rw [hx] at this
    exact this
  | some r =>
    obtain ⟨p, y⟩ := r
    rw [hx] at dx
    have := q H' s1
    rw [hx] at this
    cases dx
    exact this
def spAskQ (K : PySem.W.Frag) (r : Gn → V → Hp → Hp → Prop) : Sp := fun vs H Q _ => ∃ (v : V) (g : Gn), vs = [v] ∧ Dp K H v g.d ∧ g.good ∧ g.sz ≤ 1000 ∧ dueG g = none ∧ ∀ x H', r g x H H' → Q x H'
theorem ok_checkQ {f fW : Addr} {fd dW : FuncData} (F : Fun K "check_question" "check_question" sCheckQ f fd) (GW : FnOk P w K mg base CX0 6 fW dW ["value"] (spIsQ K)) (bW : Binds K dW ["value"] []) (kW : PySem.W.keepIn K (.ref fW) = true) (mW : mg "is_question" = some (.ref fW)) : FnOk P w K mg base CX0 7 f fd ["question"] (spAskQ K fun _ x H H' => x = .non ∧ Same H H') := by
  refine F.ok scCheckQ (fun vs H Q E h => ?_) (fun cdv A outer s H vs Q E hr h => ?_)
  · obtain ⟨_, _, rfl, _⟩ := h
    rfl
  obtain ⟨v, g, rfl, hd, good, size, due, q⟩ := h
  refine ⟨_, pss_one (ps_if (pt_not (pt_val (pe_call GW (hr.mono (by decide)) rfl mW kW bW .nil pass0 (pa_cons (pv 0) pa_nil)))) (pss_one ps_dead) pss_nil), ?_⟩
  refine ⟨v, rfl, nil_read (show spIsQ K [v] H _ E0 from ⟨v, g, rfl, hd, good, size, fun H' s1 => ⟨_, rfl, ?_⟩⟩)⟩
  rw [due]
  exact iteF' rfl (q _ _ ⟨rfl, s1⟩)
/-- all that is looked at in a question -/
def SeenAll (K : PySem.W.Frag) (g : Gn) (x : V) (H H' : Hp) : Prop := ∃ s xs, x = .ref s ∧ Same H H' ∧ H' s = some (.lst xs) ∧ Ents K H' H' xs (preG g [] []) ∧ Clean (preG g [] [])
theorem ok_seenIn {f fC fW : Addr} {fd dC dW : FuncData} (F : Fun K "seen_in" "seen_in" sSeenIn f fd) (GC : FnOk P w K mg base CX0 7 fC dC ["question"] (spAskQ K fun _ x H H' => x = .non ∧ Same H H')) (bC : Binds K dC ["question"] []) (kC : PySem.W.keepIn K (.ref fC) = true) (mC : mg "check_question" = some (.ref fC))
    (GW : FnOk P w K mg base CX0 4 fW dW ["value"] (spWalked K)) (bW : Binds K dW ["value"] []) (kW : PySem.W.keepIn K (.ref fW) = true) (mW : mg "walked" = some (.ref fW)) : FnOk P w K mg base CX0 8 f fd ["question"] (spAskQ K (SeenAll K)) := by
  refine F.ok scSeenIn (fun vs H Q E h => ?_) (fun cdv A outer s H vs Q E hr h => ?_)
  · obtain ⟨_, _, rfl, _⟩ := h
    rfl
  obtain ⟨v, g, rfl, hd, good, size, due, q⟩ := h
  have nd := scSeenIn.nd
  refine ⟨_, (pss_cons (ps_expr (pe_call GC (hr.mono (by decide)) rfl mC kC bC .nil pass0 (pa_cons (pv 0) pa_nil)))
     (pss_cons (ps_asg (pe_call GW (hr.mono (by decide)) rfl mW kW bW .nil pass0 (pa_cons (pv 0) pa_nil)) (pg_tup rfl (pgs_cons (pg_name (i := 1) nd rfl (.inl rfl)) (pgs_cons (pg_name (i := 2) nd rfl (.inl rfl)) pgs_nil))))
     (pss_one (ps_ret (pv 1))))), ?_⟩
  refine ⟨v, rfl, nil_read (show spAskQ K _ [v] H _ E0 from ⟨v, g, rfl, hd, good, size, due, fun x H1 ⟨ex, s1⟩ => ?_⟩)⟩
  refine ⟨v, rfl, nil_read (show spWalked K [v] H1 _ E0 from ⟨v, g, rfl, dp_same s1 _ _ hd, good, size, fun p sA xs S why H2 s2 np nS hp es hS seen => ?_⟩)⟩
  refine ⟨p, _, rfl, hp, rfl, _, _, rfl, _, _, rfl, rfl, _, rfl, ?_⟩
  cases why with
  | some y =>
    obtain ⟨S0, e, _, ef⟩ := seen_some seen
    unfold dueG at due
    rw [ef] at due
    cases due
  | none =>
    obtain ⟨eS, _, clean, _⟩ := seen_none seen good
    subst eS
    exact q _ _ ⟨sA, xs, rfl, s1.trans s2, es, hS.up s2, clean⟩
/-- a new list of the free names -/
theorem ok_freeN {f fS fF : Addr} {fd dS dF : FuncData} (F : Fun K "free_names" "free_names" sFreeN f fd) (GS : FnOk P w K mg base CX0 8 fS dS ["question"] (spAskQ K (SeenAll K))) (bS : Binds K dS ["question"] []) (kS : PySem.W.keepIn K (.ref fS) = true) (mS : mg "seen_in" = some (.ref fS))
    (GF : FnOk P w K mg base CX0 2 fF dF ["seen"] (spNFree K)) (bF : Binds K dF ["seen"] []) (kF : PySem.W.keepIn K (.ref fF) = true) (mF : mg "names_free_in" = some (.ref fF)) (mSorted : mg "sorted" = none) : FnOk P w K mg base CX0 9 f fd ["question"] (spAskQ K fun g x H H' => ∃ p, x = .ref p ∧ Same H H' ∧ H p = none ∧ H' p = some (.lst ((freeQ g.toQ).map V.str))) := by
  refine F.ok scFreeN (fun vs H Q E h => ?_) (fun cdv A outer s H vs Q E hr h => ?_)
  · obtain ⟨_, _, rfl, _⟩ := h
    rfl
  obtain ⟨v, g, rfl, hd, good, size, due, q⟩ := h
  have nd := scFreeN.nd
  refine ⟨_, pss_one (ps_ret (pe_callB (cr_sortDX rfl hr.units) (by rfl) mSorted (by decide +kernel) (pa_cons (pe_call GF (hr.mono (by decide)) rfl mF kF bF .nil pass0 (pa_cons (pe_call GS (hr.mono (by decide)) rfl mS kS bS .nil pass0 (pa_cons (pv 0) pa_nil)) pa_nil)) pa_nil))), ?_⟩
  refine ⟨v, rfl, nil_read (show spAskQ K _ [v] H _ E0 from ⟨v, g, rfl, hd, good, size, due, fun x H1 ⟨sA, xs, ex, s1, es, hS, clean⟩ => ?_⟩)⟩
  subst ex
  have few : (preG g [] []).length ≤ 1000 := by rw [pre_len]; exact size
  refine nil_read (show spNFree K [.ref sA] H1 _ E0 from ⟨sA, xs, _, rfl, SqL.of es, hS, clean, few, fun D H2 s2 nD hk => nil_read ⟨D, _, rfl, hk, ?_, fun p np => ?_⟩⟩)
  · have h1 := (firstsX_once _ (freeL (preG g [] [])) rfl).2
    have h2 := freeL_len (preG g [] [])
    omega
  · have s12 := s1.trans s2
    refine q _ _ ⟨p, rfl, s12.trans (same_new np), none_before s12 np, ?_⟩
    rw [upd_same]
    have nb := no_bad good.1 (p := []) (ar := []) fun e he => (clean e he).2
    have fr := fun x => free_pre x g.toQ [] []
    rw [nb] at fr
    rw [free_of (q := g.toQ) (firstsX_once _ (freeL (preG g [] [])) rfl).1 fun x => by rw [fr x]; simp]
theorem ents_firsts {H0 H : Hp} : ∀ {xs : List V} {S : List En}, Ents K H0 H xs S → Clean S → ∃ ds : List V, ds.length = xs.length ∧ DpAll K H0 ds (S.map fun e => e.g.d) ∧ ∀ (i : Nat) v, xs[i]? = some v → ∃ a d pa ra, v = .ref a ∧ ds[i]? = some d ∧ SqT K H a [d, pa, ra]
  | [], [], _, _ => ⟨[], rfl, .nil, fun i v h => by simp at h⟩
  | v :: xs, e :: S, h, cl => by
    obtain ⟨ds, l, al, at_⟩ := ents_firsts h.2 fun e he => cl e (List.mem_cons_of_mem _ he)
    obtain ⟨a, x, pa, ra, rfl, ha, dx, hpa, hra⟩ := h.1
    refine ⟨x :: ds, by rw [List.length_cons, List.length_cons, l], .cons dx al, fun i v hv => ?_⟩
    cases i with
    | zero => cases hv; exact ⟨a, x, _, _, rfl, rfl, ha⟩
    | succ i => exact at_ i v (by simpa using hv)
def rLenQ (K : PySem.W.Frag) : List V → Hp → VK → Prop := fun xs H Q => ∃ p ys, xs = [V.ref p] ∧ (SqL K H p ys ∨ SqT K H p ys) ∧ Q (V.int ys.length) H
def spDepIn (K : PySem.W.Frag) : Sp := fun vs H Q _ => ∃ (s : Addr) (xs : List V) (S : List En), vs = [.ref s] ∧ SqL K H s xs ∧ Ents K H H xs S ∧ Clean S ∧ S.length ≤ 1000 ∧ ∀ H', Same H H' → Q (.int (maxOf 0 (depsE S))) H'
theorem ok_depIn {f rQ : Addr} {fd : FuncData} (F : Fun K "depth_in" "depth_in" sDepIn f fd) (mQ : mg "QUANTIFIERS" = some (.ref rQ)) (eQ : ∀ H, SqT K H rQ (quansL.map V.str)) (mMax : mg "max" = none) (mLen : mg "len" = none) : FnOk P w K mg base CX0 1 f fd ["seen"] (spDepIn K) := by
  refine F.ok scDepIn (fun vs H Q E h => ?_) (fun cdv A outer s H vs Q E hr h => ?_)
  · obtain ⟨_, _, _, rfl, _⟩ := h
    rfl
  obtain ⟨s, xs, S, rfl, hs, hS, clean, few, q⟩ := h
  have nd := scDepIn.nd
  refine ⟨_, pss_one (ps_ret (pe_callBK (cr_maxDef rfl hr.units) (by rfl) mMax (by decide +kernel) (pa_cons (pe_lc (own := [("one", 1), ("_", 2), ("around", 3)]) (g := gTup K 3 (gCons (gName 1) (gCons (gName 2) (gCons (gName 3) gNil)))) rfl nd (pi_list (pv 0)) (blkOk_by (own := [("one", 1), ("_", 2), ("around", 3)]) (N := NDi) (sc := defScope sDepIn) (by decide +kernel)) (fun _ _ _ _ _ => pg_tup rfl (pgs_cons (pg_name (i := 1) nd rfl (Or.inl rfl)) (pgs_cons (pg_name (i := 2) nd rfl (Or.inl rfl)) (pgs_cons (pg_name (i := 3) nd rfl (Or.inl rfl)) pgs_nil))))
      (fun _ _ _ _ _ => pts_one (pt_cmpR (r := rIn K false) op_in_seq (pe_ix (r := rIxT K) ix_tup (pv 1) pe_int (fun _ _ => rfl)) (pe_glob (v := .ref rQ) (by rfl) mQ rfl) (by rfl))) (fun _ _ _ _ _ => pe_op op_add (pe_callB (r := rLenQ K) call_len_seq (by rfl) mLen PySem.boot_len (pa_cons (pv 3) pa_nil)) pe_int)) pa_nil) (pk_cons pe_int pk_nil))), ?_⟩
  have lS := hS.len
  refine ⟨_, rfl, s, rfl, ⟨_, hs⟩, fun D nD => ?_⟩
  refine lc_opts (walk_list (K := K) (a := s) (xs := xs)) (S.map fun e => (depE e).map V.int) (by rw [List.length_map, lS]) (by rw [sizeLine_eq]; omega) nD (fun H' s' => L2.Same.seq s' hs) (fun j H9 v H' y => by rw [y.1]; exact fun _ _ h => h) (fun j v H9 H' o hj ho s' y R N hR hN => ?_) fun H1 s1 e1 => ?_
  · obtain ⟨rfl, hx⟩ := y
    obtain ⟨e, he, en⟩ := hS.at hx
    rw [List.getElem?_map, he] at ho
    injection ho with ho
    replace ho : (depE e).map V.int = o := ho
    have cl := clean e (List.mem_of_getElem? he)
    obtain ⟨a, ax, pa, ra, wd, vr, rs, rfl, ha, hax, rr, ed, lw, lr, hpa, hra, qyes, qno, nm⟩ := ent_node en cl.1 cl.2
    refine ⟨a, _, rfl, sqT_same s' ha, rfl, _, _, rfl, _, _, rfl, _, _, rfl, rfl, rfl, ?_⟩
    refine headin_read quansL rfl (sqT_same s' hax) eQ ?_
    cases c : decide (wd ∈ quansL) with
    | false =>
      refine iteF' rfl (hN ?_ _ (Same.refl _))
      rw [← ho]
      have : depE e = none := by
        unfold depE
        split
        · rename_i b z g' hg
          exact absurd hg (qno c b z g')
        · rfl
      rw [this]; rfl
    | true =>
      obtain ⟨b, z, g', hg, hz⟩ := qyes c
      refine iteT' rfl ⟨_, rfl, ra, _, rfl, .inr (sqT_same s' hra), _, _, rfl, rfl, hR _ _ ?_ (Same.refl _)⟩
      have : depE e = some ((e.ar.length : Nat) + 1 : Int) := by unfold depE; rw [hg]
      rw [← ho, this, List.length_map]; rfl
  · refine nil_read ⟨D, depsE S, 0, rfl, rfl, SqL.of ?_, q _ s1⟩
    rw [e1]
    congr 2
    unfold depsE
    rw [List.filterMap_map, List.map_filterMap]
    rfl
theorem ok_dep {f fS fD : Addr} {fd dS dD : FuncData} (F : Fun K "depth" "depth" sDep f fd) (GS : FnOk P w K mg base CX0 8 fS dS ["question"] (spAskQ K (SeenAll K))) (bS : Binds K dS ["question"] []) (kS : PySem.W.keepIn K (.ref fS) = true) (mS : mg "seen_in" = some (.ref fS))
    (GD : FnOk P w K mg base CX0 1 fD dD ["seen"] (spDepIn K)) (bD : Binds K dD ["seen"] []) (kD : PySem.W.keepIn K (.ref fD) = true) (mD : mg "depth_in" = some (.ref fD)) : FnOk P w K mg base CX0 9 f fd ["question"] (spAskQ K fun g x H H' => x = .int (qd g.toQ : Nat) ∧ Same H H') := by
  refine F.ok scDep (fun vs H Q E h => ?_) (fun cdv A outer s H vs Q E hr h => ?_)
  · obtain ⟨_, _, rfl, _⟩ := h
    rfl
  obtain ⟨v, g, rfl, hd, good, size, due, q⟩ := h
  refine ⟨_, (pss_one (ps_ret (pe_call GD (hr.mono (by decide)) rfl mD kD bD .nil pass0 (pa_cons (pe_call GS (hr.mono (by decide)) rfl mS kS bS .nil pass0 (pa_cons (pv 0) pa_nil)) pa_nil)))), ?_⟩
  refine ⟨v, rfl, nil_read (show spAskQ K _ [v] H _ E0 from ⟨v, g, rfl, hd, good, size, due, fun x H1 ⟨sA, xs, ex, s1, es, hS, clean⟩ => ?_⟩)⟩
  subst ex
  refine nil_read (show spDepIn K [.ref sA] H1 _ E0 from ⟨sA, xs, _, rfl, SqL.of es, hS, clean, by rw [pre_len]; exact size, fun H2 s2 => q _ _ ⟨?_, s1.trans s2⟩⟩)
  have nb := no_bad good.1 (p := []) (ar := []) fun e he => (clean e he).2
  have := depth_pre g.toQ
  rw [nb] at this
  rw [this]
end
end DQ

set_option Elab.async false
set_option linter.all false
set_option maxRecDepth 100000
set_option maxHeartbeats 1000000
namespace DQ
open PySem PySem.Spec PyProof.Rows L2
/-! ### signs -/
abbrev sSigns : Stmt := topS 29
abbrev NSg : List Str := ["question", "row", "ones", "one", "marks", "columns"]
theorem scSigns : FnScope NSg ["question"] (defScope sSigns) := ⟨rfl, rfl, rfl, by decide +kernel, rfl, by decide +kernel, by decide +kernel⟩
section
variable {P : Program} {w : World} {K : PySem.W.Frag} {mg : Str → Option Value} {base : Heap}
abbrev tSgn (P : Program) (w : World) (K : PySem.W.Frag) (wd : Str) : TE := tScX P w (iList K (tVar 2)) (gName 3) (tTest (tOp rEq (tOp (rIxT K) (tVar 3) (tC (.int 0))) (tC (.str wd)))) (tOp (rIxT K) (tVar 3) (tC (.int 1))) [3]
theorem set_read {wd : Str} {fn : Gn → Option Str} (WA : WordAt wd fn) {σ : L2.St} {H : Hp} {R : VK} {o : Addr} {ds : List V} {S : List En} (hσ : ∀ x : V, wipe ((wipe σ [3]).set 3 (some x)) [3] = wipe σ [3] ∧ ((wipe σ [3]).set 3 (some x))[3]? = some (some x)) (h2 : σ[2]? = some (some (.ref o))) (ho : H o = some (.lst ds)) (al : DpAll K H ds (S.map fun e => e.g.d)) (clean : Clean S) (few : S.length ≤ 1000)
    (q : ∀ D L H', Same H H' → H D = none → H' D = some (SetXO P w D L) → OnceX L (S.filterMap fun e => fn e.g) → R (.ref D) H') : tSgn P w K wd σ H R := by
  refine ⟨_, h2, o, rfl, ⟨_, SqL.of ho⟩, fun D nD => ?_⟩
  have ld : ds.length = S.length := by have := dpAll_len al; rw [List.length_map] at this; exact this
  refine it_by (walk_list (K := K) (a := o) (xs := ds)) (fun i H' => Same H H' ∧ ∃ L, H' D = some (SetXO P w D L) ∧ L.length ≤ i ∧ OnceX L ((S.take i).filterMap fun e => fn e.g)) ⟨same_new nD, [], upd_same, Nat.le_refl _, .nil, fun _ => Iff.rfl⟩ (fun i H' _ pv => SqL.of (pv.1 _ _ ho)) (fun i x H9 H' hi pv y => ?_) fun H' pv => ?_
  · obtain ⟨rfl, hx⟩ := y
    obtain ⟨sm, L, eD, lL, once⟩ := pv
    obtain ⟨w1, w2⟩ := hσ x
    have he : S[i]? = some S[i] := List.getElem?_eq_getElem (by omega)
    generalize S[i] = e at he
    have cl := clean e (List.mem_of_getElem? he)
    have dx := dpAll_get al hx (show (S.map fun e => e.g.d)[i]? = some e.g.d by rw [List.getElem?_map, he]; rfl)
    obtain ⟨wd', rs, ed, lw, _⟩ := node_of cl.1.1 (ar := e.ar) cl.2
    obtain ⟨yes, no⟩ := WA e.g e.ar wd' rs cl.1.1 cl.2 ed
    rw [ed] at dx
    cases dx with
    | @tup ax vx _ hax rx =>
    cases rx with
    | @cons v0 vr _ _ g0 rr =>
    cases g0
    have hax := sqT_same sm hax
    have tk := take_next he
    refine ⟨w1, _, w2, ax, _, 0, _, rfl, rfl, hax, atI_nat (j := 0) rfl, rfl, _, rfl, ?_⟩
    by_cases c : wd' = wd
    · obtain ⟨m, em, er⟩ := yes c
      refine iteT' (decide_eq_true (by rw [c])) ?_
      have hm : (V.str wd' :: vr)[1]? = some (.str m) := by
        cases rs with
        | nil => cases er
        | cons r0 rs =>
          cases er
          cases rr with
          | cons g1 _ => cases g1; rfl
      have tk2 : (S.take (i + 1)).filterMap (fun e => fn e.g) = (S.take i).filterMap (fun e => fn e.g) ++ [m] := by rw [tk, List.filterMap_append, List.filterMap_cons_some (f := fun e : En => fn e.g) (a := e) em]; rfl
      refine ⟨_, w2, ax, _, 1, _, rfl, rfl, hax, atI_nat (j := 1) hm, m, L, rfl, eD, ?_, same_upd sm nD, _, upd_same, ?_, by rw [tk2]; exact once_with once⟩
      · unfold scanBound; omega
      · unfold withX; split
        · omega
        · rw [List.length_cons]; omega
    · have tk2 : (S.take (i + 1)).filterMap (fun e => fn e.g) = (S.take i).filterMap (fun e => fn e.g) := by rw [tk, List.filterMap_append, List.filterMap_cons_none (f := fun e : En => fn e.g) (a := e) (no c), List.filterMap_nil, List.append_nil]
      exact iteF' (decide_eq_false fun z => c (by injection z)) ⟨sm, L, eD, by omega, by rw [tk2]; exact once⟩
  · obtain ⟨sm, L, eD, _, once⟩ := pv
    rw [ld, List.take_length] at once
    exact q D L H' sm nD eD once
theorem ok_signs {f fS : Addr} {fd dS : FuncData} (F : Fun K "signs" "signs" sSigns f fd) (GS : FnOk P w K mg base CX0 8 fS dS ["question"] (spAskQ K (SeenAll K))) (bS : Binds K dS ["question"] []) (kS : PySem.W.keepIn K (.ref fS) = true) (mS : mg "seen_in" = some (.ref fS)) (mSorted : mg "sorted" = none) :
    FnOk P w K mg base CX0 9 f fd ["question"] (spAskQ K fun g x H H' => ∃ t p1 p2, x = .ref t ∧ Same H H' ∧ H p1 = none ∧ H p2 = none ∧ p1 ≠ p2 ∧ SqT K H' t [.ref p1, .ref p2] ∧ H t = none ∧ H' p1 = some (.lst ((signsQ markG g).map V.str)) ∧ H' p2 = some (.lst ((signsQ linkG g).map V.str))) := by
  refine F.ok scSigns (fun vs H Q E h => ?_) (fun cdv A outer s H vs Q E hr h => ?_)
  · obtain ⟨_, _, rfl, _⟩ := h
    rfl
  obtain ⟨v, g, rfl, hd, good, size, due, q⟩ := h
  have nd := scSigns.nd
  refine ⟨_, pss_cons (ps_setLc (i := 2) (own := [("row", 1)]) (g := gName 1) (tt := tYes) (te := tOp (rIxT K) (tVar 1) (tC (.int 0))) rfl nd rfl rfl (sw_true rfl rfl rfl (by decide +kernel)) (pi_list (pe_call GS (hr.mono (by decide)) rfl mS kS bS .nil pass0 (pa_cons (pv 0) pa_nil))) (blkOk_by (own := [("row", 1)]) (N := NSg) (sc := defScope sSigns) (by decide +kernel)) (fun _ _ _ _ _ => pg_name (i := 1) nd rfl (Or.inl rfl)) (fun _ _ _ _ _ => pts_nil) (fun _ _ _ _ _ => pe_ix (r := rIxT K) ix_tup (pv 1) pe_int (fun _ _ => rfl)))
    (pss_cons (ps_setScX (i := 4) (own := [("one", 3)]) (g := gName 3) rfl nd rfl rfl (sc_used rfl rfl rfl (by rfl)) (pi_list (pv 2)) (blkOk_by (own := [("one", 3)]) (N := NSg) (sc := defScope sSigns) (by decide +kernel)) (fun _ _ _ _ _ => pg_name (i := 3) nd rfl (Or.inl rfl)) (fun _ _ _ _ _ => pts_one (pt_cmpR op_eq (pe_ix (r := rIxT K) ix_tup (pv 3) pe_int (fun _ _ => rfl)) pe_str (nomark _))) (fun _ _ _ _ _ => pe_ix (r := rIxT K) ix_tup (pv 3) pe_int (fun _ _ => rfl)))
    (pss_cons (ps_setScX (i := 5) (own := [("one", 3)]) (g := gName 3) rfl nd rfl rfl (sc_used rfl rfl rfl (by rfl)) (pi_list (pv 2)) (blkOk_by (own := [("one", 3)]) (N := NSg) (sc := defScope sSigns) (by decide +kernel)) (fun _ _ _ _ _ => pg_name (i := 3) nd rfl (Or.inl rfl)) (fun _ _ _ _ _ => pts_one (pt_cmpR op_eq (pe_ix (r := rIxT K) ix_tup (pv 3) pe_int (fun _ _ => rfl)) pe_str (nomark _))) (fun _ _ _ _ _ => pe_ix (r := rIxT K) ix_tup (pv 3) pe_int (fun _ _ => rfl)))
    (pss_one (ps_ret (pe_tup (pa_cons (pe_callB (r := rSortX P w) (cr_sortX rfl hr.units) (by rfl) mSorted (by decide +kernel) (pa_cons (pv 4) pa_nil)) (pa_cons (pe_callB (r := rSortX P w) (cr_sortX rfl hr.units) (by rfl) mSorted (by decide +kernel) (pa_cons (pv 5) pa_nil)) pa_nil))))))), ?_⟩
  have few : (preG g [] []).length ≤ 1000 := by rw [pre_len]; exact size
  refine seq_te (fun y H' => ∃ D ds, y = .ref D ∧ Same H H' ∧ H' D = some (.lst ds) ∧ DpAll K H' ds ((preG g [] []).map fun e => e.g.d) ∧ Clean (preG g [] [])) (fun R hR => ?_) fun y H1 ⟨o, ds, ey, s1, eo, al, clean⟩ => ?_
  · refine ⟨v, rfl, nil_read (show spAskQ K _ [v] H _ E0 from ⟨v, g, rfl, hd, good, size, due, fun x H1 ⟨sA, xs, ex, s1, es, hS, clean⟩ => ⟨sA, ex, ⟨_, SqL.of es⟩, fun D nD => ?_⟩⟩)⟩
    obtain ⟨ds, ld, al, at_⟩ := ents_firsts hS clean
    have lS := hS.len
    refine lc_opts (walk_list (K := K) (a := sA) (xs := xs)) (ds.map some) (by rw [List.length_map, ld]) (by rw [sizeLine_eq]; omega) nD (fun H' s' => SqL.of (s' _ _ es)) (fun j H9 v H' y => by rw [y.1]; exact fun _ _ h => h) (fun j v H9 H' o hj ho s' y R N hR _ => ?_) fun H2 s2 e2 => ?_
    · obtain ⟨rfl, hx⟩ := y
      obtain ⟨a, d, pa, ra, rfl, hd2, ha⟩ := at_ j v hx
      rw [List.getElem?_map, hd2] at ho
      injection ho with ho
      exact ⟨rfl, _, rfl, a, _, 0, _, rfl, rfl, sqT_same s' ha, atI_nat (j := 0) rfl, hR _ _ ho.symm (Same.refl _)⟩
    · rw [List.filterMap_map, show ((id : Option V → Option V) ∘ some) = some from rfl, List.filterMap_some] at e2
      exact hR _ _ ⟨D, ds, rfl, s1.trans s2, e2, dpAll_same s2 _ _ al, clean⟩
  subst ey
  show tSeq (tAsg (tScX _ _ _ _ _ _ _) _) _ _ [some v, none, some (.ref o), none, none, none] H1
  refine seq_te (fun y H' => ∃ D L, y = .ref D ∧ Same H1 H' ∧ H' D = some (SetXO P w D L) ∧ OnceX L ((preG g [] []).filterMap fun e => markG e.g)) (fun R hR => ?_) fun y H2 ⟨D1, L1, ey, s2, e1, o1⟩ => ?_
  · exact set_read word_mark (fun x => ⟨rfl, rfl⟩) rfl eo al clean few fun D L H' s' nD eD once => hR _ _ ⟨D, L, rfl, s', eD, once⟩
  subst ey
  show tSeq (tAsg (tScX _ _ _ _ _ _ _) _) _ _ [some v, none, some (.ref o), none, some (.ref D1), none] H2
  refine seq_te (fun y H' => ∃ D L, y = .ref D ∧ Same H2 H' ∧ H' D = some (SetXO P w D L) ∧ OnceX L ((preG g [] []).filterMap fun e => linkG e.g)) (fun R hR => ?_) fun y H3 ⟨D2, L2, ey, s3, e2, o2⟩ => ?_
  · exact set_read word_link (fun x => ⟨rfl, rfl⟩) rfl (s2 _ _ eo) (dpAll_same s2 _ _ al) clean few fun D L H' s' nD eD once => hR _ _ ⟨D, L, rfl, s', eD, once⟩
  subst ey
  show tRet _ _ [some v, none, some (.ref o), none, some (.ref D1), some (.ref D2)] H3
  have s03 := (s1.trans s2).trans s3
  refine ⟨_, rfl, nil_read ⟨D1, L1, rfl, s3 _ _ e1, fun M1 p1 pm1 n1 => ?_⟩⟩
  have g1 := same_new n1 (o := .lst ((sortX M1).map V.str))
  refine ⟨_, rfl, nil_read ⟨D2, L2, rfl, g1 _ _ e2, fun M2 p2 pm2 n2 => ?_⟩⟩
  have g2 := same_new n2 (o := .lst ((sortX M2).map V.str))
  refine nil_read ⟨by show 2 ≤ sizeLine; decide, fun t nt => ?_⟩
  have g3 := same_new nt (o := .tup [V.ref p1, .ref p2])
  have sg : ∀ {fn : Gn → Option Str} {L M : List Str}, OnceX L ((preG g [] []).filterMap fun e => fn e.g) → M.Perm L → sortX M = signsQ fn g := fun o pm => sortX_perm (pm.trans (once_perm o (firstsX_once _ _ rfl).1))
  refine q _ _ ⟨t, p1, p2, rfl, ((s03.trans g1).trans g2).trans g3, none_before s03 n1, none_before (s03.trans g1) n2, fun z => ?_, SqT.of upd_same, none_before ((s03.trans g1).trans g2) nt, ?_, ?_⟩
  · rw [← z, upd_same] at n2; cases n2
  · rw [← sg o1 pm1]; exact g3 _ _ (g2 _ _ upd_same)
  · rw [← sg o2 pm2]; exact g3 _ _ upd_same
end
end DQ

set_option Elab.async false
set_option linter.all false
set_option maxRecDepth 100000
set_option maxHeartbeats 1000000
namespace DQ
open PySem PySem.Spec PyProof.Rows L2
/-! ### _law_is_word -/
abbrev sLWord : Stmt := topS 41
abbrev NLW : List Str := ["value", "sign"]
theorem scLWord : FnScope NLW ["value"] (defScope sLWord) := ⟨rfl, rfl, rfl, by decide +kernel, rfl, by decide +kernel, by decide +kernel⟩
def signS (c : Nat) : Str := ⟨#[c]⟩
theorem lay_sign {c : Nat} {x : Str} (h : PyData.canLay0 (.str x) = true) (hc : c ∈ x.cps.toList) : PyData.canLay0 (.str (signS c)) = true := by
  have h' : (x.cps.all fun c => decide (c < 0x110000)) = true := h
  show ((signS c).cps.all fun c => decide (c < 0x110000)) = true
  rw [← Array.all_toList, List.all_eq_true] at h' ⊢
  intro y hy
  rw [List.mem_singleton.mp (show y ∈ [c] from hy)]
  exact h' c hc
theorem kept_if {α β : Type} (p : α → Bool) (f : α → β) (L : List α) : (L.map fun c => if p c = true then some (f c) else none).filterMap id = (L.filter p).map f := by
  induction L with
  | nil => rfl
  | cons c L ih =>
    rw [List.map_cons]
    cases z : p c with
    | true => rw [List.filter_cons_of_pos z, List.map_cons, if_pos rfl, List.filterMap_cons_some (f := id) (a := some (f c)) (b := f c) rfl, ih]
    | false => rw [List.filter_cons_of_neg (by rw [z]; exact Bool.noConfusion), if_neg Bool.noConfusion, List.filterMap_cons_none (f := id) (a := (none : Option β)) rfl, ih]
def badSigns (x : Str) : List Str := (x.cps.toList.filter fun c => !decide (c ∈ wordSigns.cps.toList)).map signS
theorem bad_nil (x : Str) : decide (badSigns x = []) = x.cps.toList.all fun c => decide (c ∈ wordSigns.cps.toList) := by
  rw [Bool.eq_iff_iff, decide_eq_true_eq, List.all_eq_true]
  unfold badSigns
  rw [List.map_eq_nil_iff, List.filter_eq_nil_iff]
  constructor
  · intro h c hc
    have := h c hc
    simpa using this
  · intro h c hc
    have := h c hc
    simpa using this
section
variable {P : Program} {w : World} {K : PySem.W.Frag} {mg : Str → Option Value} {base : Heap}
def spLWord (K : PySem.W.Frag) : Sp := fun vs H Q _ => ∃ (v : V) (d : PyData), vs = [v] ∧ Dp K H v d ∧ (∀ x, d = .str x → x.length ≤ 1000 ∧ PyData.canLay0 (.str x) = true) ∧ ∀ H', Same H H' → Q (.bl (wordQ d)) H'
theorem in_readN {σ : L2.St} {H : Hp} {R : Bool → Hp → Prop} {i : Nat} {y : Str} (ws : List Str) (hs : σ[i]? = some (some (.str y))) (few : ws.length ≤ 40) (q : ∀ H', Same H H' → R (decide (y ∈ ws)) H') : tTest (tOp (rIn K false) (tVar i) (tLst (tWs ws))) σ H R := by
  refine ⟨_, hs, tWs_read ws ⟨by rw [List.length_map, sizeLine_eq]; omega, fun p np => ⟨p, _, rfl, .inl (SqL.of upd_same), rfl, flat_words ws, _, rfl, ?_⟩⟩⟩
  show R (inV (V.str y) (ws.map V.str)) _
  rw [inV_words]
  exact q _ (same_new np)
theorem ok_lword {f : Addr} {fd : FuncData} (F : Fun K "_law_is_word" "_law_is_word" sLWord f fd) (mI : mg "isinstance" = none) (mStr : mg "str" = none) (mLen : mg "len" = none) : FnOk P w K mg base CX0 1 f fd ["value"] (spLWord K) := by
  refine F.ok scLWord (fun vs H Q E h => ?_) (fun cdv A outer s H vs Q E hr h => ?_)
  · obtain ⟨_, _, rfl, _⟩ := h
    rfl
  obtain ⟨v, d, rfl, hd, ok, q⟩ := h
  have nd := scLWord.nd
  refine ⟨_, (pss_cons (ps_if (PW.pt (pw_or (pt_not (pt_val (pe_callB (id := "isinstance") (r := rIsi K) call_isi (by rfl) mI (by decide +kernel) (pa_cons (pv 0) (pa_cons (pe_bltn (v := .ty "str") (by rfl) mStr (by decide +kernel) rfl) pa_nil))))) (pw_or (pt_not (pt_chain op_le op_le pe_int (pe_callB call_len_str (by rfl) mLen PySem.boot_len (pa_cons (pv 0) pa_nil)) pe_int)) (pw_or1 (pt_cmpR (r := rIn K false) op_in_seq (pv 0) (pe_lst (pa_cons pe_str (pa_cons pe_str (pa_cons pe_str (pa_cons pe_str (pa_cons pe_str (pa_cons pe_str (pa_cons pe_str (pa_cons pe_str (pa_cons pe_str (pa_cons pe_str (pa_cons pe_str pa_nil)))))))))))) (by with_unfolding_all rfl)))))) (pss_one (ps_ret pe_bl)) pss_nil)
     (pss_one (ps_ret (pe_and (pe_cmpR op_in_sign (pe_ix (r := rIxS) ix_str (pv 0) pe_int (fun _ _ => rfl)) pe_str (by rfl)) (pe_one (pe_cmpR (r := rEqD K) (op_eqD hr.units) (pe_lc (own := [("sign", 1)]) (g := gName 1) rfl nd (pi_str (pv 0)) (blkOk_by (own := [("sign", 1)]) (N := NLW) (sc := defScope sLWord) (by decide +kernel)) (fun _ _ _ _ _ => pg_name (i := 1) nd rfl (Or.inl rfl)) (fun _ _ _ _ _ => pts_one (pt_cmpR op_notIn_sign (pv 1) pe_str (by rfl))) (fun _ _ _ _ _ => (pv 1))) (pe_lst pa_nil) (nomark _))))))), ?_⟩
  have ty := dp_ty hd
  refine ⟨_, rfl, v, .ty "str", _, _, _, rfl, .ty "str", ty, kit_data (by simp) d, _, rfl, ?_⟩
  cases c1 : isT "str" d with
  | false =>
    have e : wordQ d = false := by
      cases d with
      | str x => exact absurd c1 (by simp only [isT, tyN]; decide)
      | _ => rfl
    have := q H (Same.refl _)
    rw [e] at this
    exact iteT' rfl this
  | true =>
    refine iteF' rfl ?_
    cases hd with
    | str x =>
      obtain ⟨few, lay⟩ := ok x rfl
      have end0 : ∀ H', Same H H' → wordB x = false → Q (.bl false) H' := fun H' s e => by
        have := q H' s
        rwa [show wordQ (.str x) = wordB x from rfl, e] at this
      refine ⟨_, rfl, x, rfl, Nat.le_trans few (by decide), _, _, rfl, rfl, _, rfl, ite2 (fun c1 => ⟨_, _, rfl, rfl, _, rfl, ite2 (fun c2 => ?_) fun c2 => ?_⟩) fun c1 => ?_⟩
      · refine end0 _ (Same.refl _) ?_
        have z : ¬ x.length ≤ 30 := fun z => by
          rw [decide_eq_true (show (x.length : Int) ≤ 30 by omega)] at c2
          exact absurd c2 (by decide)
        unfold wordB spelled
        rw [decide_eq_false z]; simp
      · have l1 : 1 ≤ x.length := by
          have := of_decide_eq_true c1
          omega
        have l2 : x.length ≤ 30 := by
          by_cases z : (x.length : Int) ≤ 30
          · omega
          · rw [decide_eq_false z] at c2
            exact absurd rfl c2
        obtain ⟨c, r, hx⟩ : ∃ c r, x.cps.toList = c :: r := by
          cases e : x.cps.toList with
          | nil =>
            have : x.length = 0 := by
              show x.cps.size = 0
              rw [← Array.length_toList, e]; rfl
            omega
          | cons c r => exact ⟨c, r, rfl⟩
        have sp : spelled x = (decide (c ∈ letters.cps.toList) && x.cps.toList.all fun c => decide (c ∈ wordSigns.cps.toList)) := by
          unfold spelled
          rw [decide_eq_true l1, decide_eq_true l2, hx]; rfl
        refine in_readN (K := K) (y := x) reserved rfl (by decide) fun H1 s1 => ?_
        cases c3 : decide (x ∈ reserved) with
        | true => exact iteT' rfl (end0 _ s1 (by unfold wordB; rw [inV_words, c3]; simp))
        | false =>
          have wb : wordB x = spelled x := by unfold wordB; rw [inV_words, c3]; simp
          rw [sp] at wb
          refine iteF' rfl ⟨_, rfl, x, 0, c, rfl, rfl, Nat.le_trans few (by decide), by rw [hx]; exact atI_nat (j := 0) rfl, c, letters, rfl, rfl, _, rfl, ?_⟩
          cases c4 : decide (c ∈ letters.cps.toList) with
          | false => exact iteF' rfl (end0 _ s1 (by rw [wb, c4]; rfl))
          | true =>
            rw [c4, Bool.true_and, ← bad_nil] at wb
            refine iteT' rfl ⟨_, rfl, x, rfl, fun D nD => ?_⟩
            refine lc_opts (walk_str (z := x)) (x.cps.toList.map fun c => if (!decide (c ∈ wordSigns.cps.toList)) = true then some (V.str (signS c)) else none) (by rw [List.length_map, Array.length_toList]) (Nat.lt_of_le_of_lt (show x.cps.size ≤ 1000 from few) (by decide)) nD (fun _ _ => trivial) (fun _ _ _ _ y => by rw [y.1]; exact fun _ _ h => h) (fun i v H9 H' o hi ho s' y R N hR hN => ?_) fun H2 s2 e2 => ?_
            · obtain ⟨rfl, d, hd, rfl⟩ := y
              rw [List.getElem?_map, Array.getElem?_toList, hd] at ho
              injection ho with ho
              replace ho : (if (!decide (d ∈ wordSigns.cps.toList)) = true then some (V.str (signS d)) else none) = o := ho
              refine ⟨rfl, _, rfl, d, wordSigns, rfl, rfl, _, rfl, ?_⟩
              cases c5 : (!decide (d ∈ wordSigns.cps.toList)) with
              | true => rw [if_pos c5] at ho; exact iteT' rfl ⟨_, rfl, hR _ _ ho.symm (Same.refl _)⟩
              | false => rw [if_neg (by rw [c5]; exact Bool.noConfusion)] at ho; exact iteF' rfl (hN ho.symm _ (Same.refl _))
            · have eb : (x.cps.toList.map fun c => if (!decide (c ∈ wordSigns.cps.toList)) = true then some (V.str (signS c)) else none).filterMap id = (badSigns x).map V.str := by
                unfold badSigns
                rw [kept_if (fun c => !decide (c ∈ wordSigns.cps.toList)) (fun c => V.str (signS c)), List.map_map]; rfl
              rw [eb] at e2
              refine ⟨Nat.zero_le _, fun p np => ?_⟩
              have sp3 := same_new np (o := .lst [])
              refine ⟨_, .list [], .lst (SqL.of (sp3 _ _ e2)) (dp_strs (badSigns x)), .lst (SqL.of upd_same) .nil, sh_strs fun y hy => ?_, by decide +kernel, ?_⟩
              · unfold badSigns at hy
                obtain ⟨c', hc', rfl⟩ := List.mem_map.mp hy
                exact lay_sign lay (List.mem_filter.mp hc').1
              · rw [eq_nil_strs, ← wb]
                exact q _ ((s1.trans s2).trans sp3)
      · refine ⟨_, rfl, ?_⟩
        refine end0 _ (Same.refl _) ?_
        have z : ¬ 1 ≤ x.length := fun z => c1 (decide_eq_true (by omega))
        unfold wordB spelled
        rw [decide_eq_false z]; rfl
    | _ => exact absurd c1 (by simp only [isT, tyN]; decide)
end
end DQ


set_option Elab.async false
set_option linter.all false
set_option maxRecDepth 100000
set_option maxHeartbeats 4000000
namespace DQ
open PySem PySem.Spec PyProof.Rows L2
/-! ### (x,) * k, however small k is -/
theorem tup_none (l : Addr) (v : Value) (n : Nat) (dd : Option Addr) (sl : Array (Option Value)) (u : Tok) :
    Meets (Builtin.«tuple.__mul__» ⟨[.ref l, .int 0 u], []⟩) (fun _ R s => s.heap.get? l = some { cls := .type "tuple", dict := dd, data := .seq #[v] n, slots := sl } ∧
      R (.ok (.ret (Value.ref s.heap.objs.size))) { s with heap := s.heap.push { cls := Value.type "tuple", data := Data.seq #[] }, toks := s.toks }) :=
  .of_wp fun prog w A R s h => by
    obtain ⟨hp, g, d, tk, os⟩ := s
    obtain ⟨hl, h⟩ := h
    have f1 := AutoSeq1.idx_int
    wp_walk using wpAny_loadPart' hl
    exact ⟨_, rfl, h⟩
theorem tup_one (l : Addr) (v : Value) (n : Nat) (dd : Option Addr) (sl : Array (Option Value)) (u : Tok) :
    Meets (Builtin.«tuple.__mul__» ⟨[.ref l, .int 1 u], []⟩) (fun _ R s => s.heap.get? l = some { cls := .type "tuple", dict := dd, data := .seq #[v] n, slots := sl } ∧ R (.ok (.ret (Value.ref l))) s) :=
  .of_wp fun prog w A R s h => by
    obtain ⟨hp, g, d, tk, os⟩ := s
    obtain ⟨hl, h⟩ := h
    have f1 := AutoSeq1.idx_int
    wp_walk using wpAny_loadPart' hl
    exact ⟨_, rfl, h⟩
def rRepS (K : PySem.W.Frag) : R2 := fun x y H Q => ∃ (c : Addr) (k : Nat) (z : V), x = .ref c ∧ y = .int k ∧ H c = some (.tup [z]) ∧ k ≤ 100 ∧ ∀ p H', Same H H' → H' p = some (.tup (List.replicate k z)) → Q (.ref p) H'
theorem rep_one {α : Type} (x : α) : ∀ k : Nat, (List.replicate k [x]).flatten = List.replicate k x
  | 0 => rfl
  | k + 1 => by rw [List.replicate_succ, List.flatten_cons, rep_one x k, List.replicate_succ, List.singleton_append]
theorem op_repS {X : Cx} : OpR X (binaryOp .Mult) (rRepS X.K) := fun pins u σ G y1 y2 b1 b2 Q J rel1 rel2 ask => by
  obtain ⟨c, k, z, rfl, rfl, hc, most, go⟩ := ask
  have sq : SqT X.K G c [z] := .inl (.inl hc)
  by_cases two : 2 ≤ k
  · cases (show b1 = Value.ref c from rel1)
    obtain ⟨tok, rfl⟩ := rel2
    obtain ⟨us, each, ⟨⟨kl, dt, dat, sls⟩, got, isC, cnt, isD⟩, le⟩ := J.tuple sq
    dsimp only at isC isD
    subst isC isD
    have one : us.length = 1 := each.length.symm
    have size1 : us.toArray.size = 1 := by rw [List.size_toArray, one]
    have full : us.toArray.isEmpty = false := by
      cases us with
      | nil => cases one
      | cons _ _ => rfl
    have flat : List.foldl (fun r t => r ++ t) #[] (List.replicate k us.toArray) = (List.replicate k us).flatten.toArray := size_rep us k
    have long : (List.replicate k us).flatten.length = k := by rw [PyProof.Rows.lm_len_rep_flat, one, Nat.mul_one]
    have small : k ≤ sizeLine := by
      rw [sizeLine_eq]
      omega
    have inW : (decide ((k : Int) < -(2 ^ 63)) || decide ((k : Int) ≥ 2 ^ 63)) = false := by
      rw [Bool.or_eq_false_iff]
      exact ⟨decide_eq_false (by omega), decide_eq_false (by omega)⟩
    have more : (us.toArray.isEmpty || (k : Int) == 1) = false := by
      rw [Bool.or_eq_false_iff]
      exact ⟨full, beq_eq_false_iff_ne.mpr (by omega)⟩
    have some_ : (decide ((k : Int) ≤ 0) || us.toArray.isEmpty) = false := by
      rw [Bool.or_eq_false_iff]
      exact ⟨decide_eq_false (by omega), full⟩
    have fits : ¬ ((us.toArray.size : Nat) : Int) * k > (2 ^ 63 - 1) / 8 := by
      rw [size1]
      omega
    have few : Builtin.Tuple.tupleTooMany (((us.toArray.size : Nat) : Int) * (k : Int)) = false := decide_eq_false (by
      rw [size1, sizeLine_eq]
      omega)
    have room : (List.foldl (fun r t => r ++ t) #[] (List.replicate (k : Int).toNat us.toArray)).size ≤ sizeLine := by
      rw [Int.toNat_natCast, flat, List.size_toArray, long]
      exact small
    have step := tuple_mulW c us.toArray cnt dt sls k tok inW more some_ fits few room
    rw [Int.toNat_natCast, flat] at step
    have isI := typeIs_int u (k : Int) tok
    refine wpAny_binaryOp_repeat_ref (T := "tuple") (U := "int") (by decide) ⟨_, got, rfl⟩ (fun u' => typeIs_int u' (k : Int) tok) noFill_tuple_mul F.fills_int_mul F.slot_int_rmul repeat_tuple F.slot_int_index.lookup ?_
    refine call_meets F.slot_int_rmul isI F.entry_int_rmul (F.args_int_rmul_2 _ _) (int_rmul_tuple k tok c us.toArray cnt dt sls) ⟨got, rfl, ⟨_, got, rfl⟩, ?_⟩
    refine call_meets F.slot_tuple_mul ⟨_, got, rfl⟩ F.entry_tuple_mul (F.args_tuple_mul_2 _ _) step ⟨got, ?_⟩
    have ok : ObjOk X.prog X.w (upd G u.heap.objs.size (.tup (List.replicate k [z]).flatten)) (u.heap.push { cls := .type "tuple", data := .seq (List.replicate k us).flatten.toArray }) u.heap.objs.size (.tup (List.replicate k [z]).flatten) :=
      ⟨by rw [PyProof.Rows.lm_len_rep_flat, List.length_singleton, Nat.mul_one]; exact small, _, each.rep k, IsTup.new _ _⟩
    have fin := go u.heap.objs.size (upd G u.heap.objs.size (.tup (List.replicate k [z]).flatten)) (same_new (J.hok.fresh (Nat.le_refl _))) (by rw [upd_same, rep_one])
    exact ⟨.ref u.heap.objs.size, _, J.laid (t' := u.toks) (fun d o q => Heap.get?_push_of_some _ q) (Nat.le_refl _) ok, rfl, fin⟩
  cases (show b1 = Value.ref c from rel1)
  obtain ⟨tok, rfl⟩ := rel2
  obtain ⟨us, each, ⟨⟨kl, dt, dat, sls⟩, got, isC, cnt, isD⟩, le⟩ := J.tuple sq
  dsimp only at isC isD
  subst isC isD
  obtain ⟨w0, rfl⟩ : ∃ w0, us = [w0] := by
    cases each with
    | cons r t => cases t; exact ⟨_, rfl⟩
  have isI := typeIs_int u (k : Int) tok
  refine wpAny_binaryOp_repeat_ref (T := "tuple") (U := "int") (by decide) ⟨_, got, rfl⟩ (fun u' => typeIs_int u' (k : Int) tok) noFill_tuple_mul F.fills_int_mul F.slot_int_rmul repeat_tuple F.slot_int_index.lookup ?_
  refine call_meets F.slot_int_rmul isI F.entry_int_rmul (F.args_int_rmul_2 _ _) (int_rmul_tuple k tok c #[w0] cnt dt sls) ⟨got, rfl, ⟨_, got, rfl⟩, ?_⟩
  have ck : k = 0 ∨ k = 1 := by omega
  rcases ck with rfl | rfl
  · refine call_meets F.slot_tuple_mul ⟨_, got, rfl⟩ F.entry_tuple_mul (F.args_tuple_mul_2 _ _) (tup_none c w0 cnt dt sls tok) ⟨got, ?_⟩
    have new := J.hok.fresh (Nat.le_refl u.heap.objs.size)
    exact ⟨.ref u.heap.objs.size, _, J.laid (t' := u.toks) (o := .tup []) (fun d o q => Heap.get?_push_of_some _ q) (Nat.le_refl _) ⟨Nat.zero_le _, [], .nil, IsTup.new _ _⟩, rfl, go _ _ (same_new new) upd_same⟩
  · refine call_meets F.slot_tuple_mul ⟨_, got, rfl⟩ F.entry_tuple_mul (F.args_tuple_mul_2 _ _) (tup_one c w0 cnt dt sls tok) ⟨got, ?_⟩
    exact ⟨.ref c, G, J, rfl, go c G (fun _ _ h => h) hc⟩
end DQ

set_option Elab.async false
set_option linter.all false
set_option maxRecDepth 100000
set_option maxHeartbeats 4000000
namespace DQ
open PySem PySem.Spec PyProof.Rows L2
/-! ### () * 0 besides -/
theorem tup_nil0 (l : Addr) (n : Nat) (dd : Option Addr) (sl : Array (Option Value)) (u : Tok) :
    Meets (Builtin.«tuple.__mul__» ⟨[.ref l, .int 0 u], []⟩) (fun _ R s => s.heap.get? l = some { cls := .type "tuple", dict := dd, data := .seq #[] n, slots := sl } ∧
      (∀ p hp, (∀ b o, s.heap.get? b = some o → hp.get? b = some o) → (p = l ∧ hp = s.heap ∨ p = s.heap.objs.size ∧ hp = s.heap.push { cls := Value.type "tuple", data := Data.seq #[] }) → R (.ok (.ret (Value.ref p))) { s with heap := hp, toks := s.toks })) :=
  .of_wp fun prog w A R s h => by
    obtain ⟨hp, g, d, tk, os⟩ := s
    obtain ⟨hl, h⟩ := h
    have f1 := AutoSeq1.idx_int
    have h1 := h l hp (fun _ _ e => e) (.inl ⟨rfl, rfl⟩)
    have h2 := h hp.objs.size (hp.push { cls := Value.type "tuple", data := Data.seq #[] }) (fun b o e => Heap.get?_push_of_some _ e) (.inr ⟨rfl, rfl⟩)
    wp_walk using wpAny_loadPart' hl
    first | exact ⟨_, rfl, h1⟩ | exact ⟨_, rfl, h2⟩
def rRepS0 (K : PySem.W.Frag) : R2 := fun x y H Q => rRepS K x y H Q ∨ ∃ c : Addr, x = .ref c ∧ y = .int 0 ∧ H c = some (.tup []) ∧ ∀ p H', Same H H' → H' p = some (.tup []) → Q (.ref p) H'
theorem op_repS0 {X : Cx} : OpR X (binaryOp .Mult) (rRepS0 X.K) := fun pins u σ G y1 y2 b1 b2 Q J rel1 rel2 ask => by
  rcases ask with ask | ⟨c, rfl, rfl, hc, go⟩
  · exact op_repS pins u σ G y1 y2 b1 b2 Q J rel1 rel2 ask
  have sq : SqT X.K G c [] := .inl (.inl hc)
  cases (show b1 = Value.ref c from rel1)
  obtain ⟨tok, rfl⟩ := rel2
  obtain ⟨us, each, ⟨⟨kl, dt, dat, sls⟩, got, isC, cnt, isD⟩, le⟩ := J.tuple sq
  dsimp only at isC isD
  subst isC isD
  cases each
  have isI := typeIs_int u (0 : Int) tok
  refine wpAny_binaryOp_repeat_ref (T := "tuple") (U := "int") (by decide) ⟨_, got, rfl⟩ (fun u' => typeIs_int u' (0 : Int) tok) noFill_tuple_mul F.fills_int_mul F.slot_int_rmul repeat_tuple F.slot_int_index.lookup ?_
  refine call_meets F.slot_int_rmul isI F.entry_int_rmul (F.args_int_rmul_2 _ _) (int_rmul_tuple 0 tok c #[] cnt dt sls) ⟨got, rfl, ⟨_, got, rfl⟩, ?_⟩
  refine call_meets F.slot_tuple_mul ⟨_, got, rfl⟩ F.entry_tuple_mul (F.args_tuple_mul_2 _ _) (tup_nil0 c cnt dt sls tok) ⟨got, fun p hp keep h => ?_⟩
  rcases h with ⟨rfl, rfl⟩ | ⟨rfl, rfl⟩
  · exact ⟨.ref p, G, J, rfl, go p G (fun _ _ h => h) hc⟩
  · have new := J.hok.fresh (Nat.le_refl u.heap.objs.size)
    exact ⟨.ref u.heap.objs.size, _, J.laid (t' := u.toks) (o := .tup []) (fun d o q => Heap.get?_push_of_some _ q) (Nat.le_refl _) ⟨Nat.zero_le _, [], .nil, IsTup.new _ _⟩, rfl, go _ _ (same_new new) upd_same⟩
end DQ

set_option Elab.async false
set_option linter.all false
set_option maxRecDepth 100000
set_option maxHeartbeats 1000000
namespace DQ
open PySem PySem.Spec PyProof.Rows L2
/-! ### _law_why -/
abbrev sLWhy : Stmt := topS 42
abbrev NLy : List Str := ["value", "around", "many", "words", "word"]
theorem scLWhy : FnScope NLy ["value", "around"] (defScope sLWhy) := ⟨rfl, rfl, rfl, by decide +kernel, rfl, by decide +kernel, by decide +kernel⟩
def manyK : List (Key × V) := [(.inr "true", .int 1), (.inr "false", .int 1), (.inr "mark", .int 3), (.inr "link", .int 4), (.inr "same", .int 3), (.inr "not", .int 2), (.inr "and", .int 3), (.inr "or", .int 3), (.inr "some", .int 3), (.inr "all", .int 3)]
theorem many_merge : mergeK [] manyK = manyK := by rfl
theorem many_at (h : Str) : valV manyK (.inr h) = (lenW h).map fun n => V.int (n : Nat) := by
  by_cases m : h ∈ [("true" : Str), "false", "mark", "link", "same", "not", "and", "or", "some", "all"]
  · simp only [List.mem_cons, List.not_mem_nil, or_false] at m
    rcases m with rfl | rfl | rfl | rfl | rfl | rfl | rfl | rfl | rfl | rfl <;> rfl
  · have e1 : lenW h = none := by
      simp only [List.mem_cons, List.not_mem_nil, or_false, not_or] at m
      unfold lenW
      simp [m]
    rw [e1]
    unfold valV
    rw [List.find?_eq_none.mpr fun z hz => ?_]; rfl
    have : ∀ z ∈ manyK, ∃ y ∈ [("true" : Str), "false", "mark", "link", "same", "not", "and", "or", "some", "all"], z.1 = .inr y := by
      intro z hz
      unfold manyK at hz
      simp only [List.mem_cons, List.not_mem_nil, or_false] at hz
      rcases hz with rfl | rfl | rfl | rfl | rfl | rfl | rfl | rfl | rfl | rfl <;> exact ⟨_, by simp, rfl⟩
    obtain ⟨y, hy, e⟩ := this z hz
    rw [e]
    intro c
    have := of_decide_eq_true c
    injection this with this
    exact m (this ▸ hy)
theorem shaped_sub {ds es : List PyData} (h : SeqAt.shaped (.tuple ds) = true) (sub : ∀ x ∈ es, x ∈ ds) : SeqAt.shaped (.list es) = true := by
  have h' : (PyData.canLayAll0 ds && decide (PyData.depthAll ds + 1 ≤ 64)) = true := h
  rw [Bool.and_eq_true, decide_eq_true_eq] at h'
  have a1 : ∀ {xs : List PyData}, PyData.canLayAll0 xs = true → ∀ x ∈ xs, PyData.canLay0 x = true := fun {xs} => by
    induction xs with
    | nil => intro _ x hx; cases hx
    | cons y ys ih =>
      intro g x hx
      have g1 : (PyData.canLay0 y && PyData.canLayAll0 ys) = true := g
      rw [Bool.and_eq_true] at g1
      rcases List.mem_cons.mp hx with rfl | hx
      · exact g1.1
      · exact ih g1.2 x hx
  have a2 : ∀ {xs : List PyData}, ∀ x ∈ xs, PyData.depth x ≤ PyData.depthAll xs := fun {xs} => by
    induction xs with
    | nil => intro x hx; cases hx
    | cons y ys ih =>
      intro x hx
      show _ ≤ max (PyData.depth y) (PyData.depthAll ys)
      rcases List.mem_cons.mp hx with rfl | hx
      · omega
      · have := ih x hx; omega
  have b : ∀ es : List PyData, (∀ x ∈ es, x ∈ ds) → PyData.canLayAll0 es = true ∧ PyData.depthAll es ≤ PyData.depthAll ds := fun es => by
    induction es with
    | nil => intro _; exact ⟨rfl, Nat.zero_le _⟩
    | cons y ys ih =>
      intro sub
      obtain ⟨i1, i2⟩ := ih fun x hx => sub x (List.mem_cons_of_mem _ hx)
      refine ⟨?_, ?_⟩
      · show (PyData.canLay0 y && PyData.canLayAll0 ys) = true
        rw [i1, a1 h'.1 y (sub y List.mem_cons_self)]; rfl
      · show max (PyData.depth y) (PyData.depthAll ys) ≤ _
        have := a2 y (sub y List.mem_cons_self)
        omega
  obtain ⟨b1, b2⟩ := b es sub
  refine shaped_of b1 ?_
  show PyData.depthAll es + 1 ≤ 64
  omega
theorem eqv_nil (ds : List PyData) : PyData.eqv (.list ds) (.list []) = decide (ds = []) := by
  cases ds with
  | nil => rfl
  | cons x xs => rfl
theorem eqv_tnil (ds : List PyData) : PyData.eqv (.tuple ds) (.tuple []) = decide (ds = []) := by
  cases ds with
  | nil => rfl
  | cons x xs => rfl
theorem cut_12 (x : V) (xs : List V) : cutV (x :: xs) (some 1) (some 2) = xs.take 1 := by
  unfold cutV
  rw [show HT.sIx (x :: xs).length 0 (some 1) = min 1 (x :: xs).length from HT.sIx_nat _ 0 1, show HT.sIx (x :: xs).length (x :: xs).length (some 2) = min 2 (x :: xs).length from HT.sIx_nat _ _ 2]
  cases xs with
  | nil => rfl
  | cons y ys => rw [List.length_cons, List.length_cons, Nat.min_eq_left (by omega), Nat.min_eq_left (by omega)]; rfl
theorem opt_len {K : PySem.W.Frag} {H : Hp} (o : Option Nat) (k : Nat) : ∃ e, Dp K H ((o.map fun n => V.int (n : Nat)).getD .non) e ∧ SeqAt.shaped e = true ∧ (!PyData.eqv e (.int (k : Nat))) = !decide (o = some k) := by
  cases o with
  | none => exact ⟨.none, .non, rfl, rfl⟩
  | some n =>
    refine ⟨.int (n : Nat), .int _, rfl, ?_⟩
    congr 1
    show ((n : Int) == (k : Int)) = decide (some n = some k)
    rw [Bool.eq_iff_iff, beq_iff_eq, decide_eq_true_eq]
    constructor
    · intro e; congr 1; omega
    · intro e; injection e with e; rw [e]
theorem bad_dp {K : PySem.W.Frag} {H : Hp} : ∀ {vs : List V} {ds : List PyData}, DpAll K H vs ds → DpAll K H (((vs.zip ds).map fun z => if (!wordQ z.2) = true then some z.1 else none).filterMap id) (ds.filter fun z => !wordQ z)
  | _, _, .nil => .nil
  | v :: vs, d :: ds, .cons a r => by
    have ih := bad_dp r
    rw [List.zip_cons_cons, List.map_cons]
    cases z : wordQ d with
    | true =>
      rw [List.filter_cons_of_neg (by simp [z]), if_neg (by simp [z]), List.filterMap_cons_none (f := id) (a := (none : Option V)) rfl]
      exact ih
    | false =>
      rw [List.filter_cons_of_pos (by simp [z]), if_pos (by simp [z]), List.filterMap_cons_some (f := id) (a := some v) (b := v) rfl]
      exact .cons a ih
theorem bad_all (ds : List PyData) : (!decide ((ds.filter fun z => !wordQ z) = [])) = !ds.all wordQ := by
  congr 1
  rw [Bool.eq_iff_iff, decide_eq_true_eq, List.filter_eq_nil_iff, List.all_eq_true]
  simp
theorem headinL_val {K : PySem.W.Frag} {σ : L2.St} {H : Hp} {R : VK} {i : Nat} {a : Addr} {h : Str} {rest : List V} (ws : List Str) (hs : σ[i]? = some (some (.ref a))) (hT : SqT K H a (.str h :: rest)) (few : ws.length ≤ 20) (q : ∀ H', Same H H' → R (.bl (decide (h ∈ ws))) H') : tOp (rIn K false) (tOp (rIxT K) (tVar i) (tC (.int 0))) (tLst (tWs ws)) σ H R := by
  refine ⟨_, hs, a, _, 0, _, rfl, rfl, hT, atI_nat (j := 0) rfl, tWs_read ws ⟨by rw [List.length_map, sizeLine_eq]; omega, fun p np => ⟨p, _, rfl, .inl (SqL.of upd_same), rfl, flat_words ws, ?_⟩⟩⟩
  show R (.bl (inV (V.str h) (ws.map V.str))) _
  rw [inV_words]
  exact q _ (same_new np)
section
variable {P : Program} {w : World} {K : PySem.W.Frag} {mg : Str → Option Value} {base : Heap}
def spLWhy (K : PySem.W.Frag) : Sp := fun vs H Q _ => ∃ (v : V) (r : Addr) (d : PyData) (ar : List Str), vs = [v, .ref r] ∧ Dp K H v d ∧ Fit d ∧ SqL K H r (ar.map V.str) ∧ ∀ H', Same H H' → Q (optV (whyQ d ar)) H'
theorem ok_lwhy {f fW : Addr} {fd dW : FuncData} (F : Fun K "_law_why" "_law_why" sLWhy f fd) (GW : FnOk P w K mg base CX0 1 fW dW ["value"] (spLWord K)) (bW : Binds K dW ["value"] []) (kW : PySem.W.keepIn K (.ref fW) = true) (mW : mg "_law_is_word" = some (.ref fW))
    (mI : mg "isinstance" = none) (mTuple : mg "tuple" = none) (mStr : mg "str" = none) (mLen : mg "len" = none) (mInt : mg "int" = none) : FnOk P w K mg base CX0 2 f fd ["value", "around"] (spLWhy K) := by
  refine F.ok scLWhy (fun vs H Q E h => ?_) (fun cdv A outer s H vs Q E hr h => ?_)
  · obtain ⟨_, _, _, _, rfl, _⟩ := h
    rfl
  obtain ⟨v, r, d, ar, rfl, hd, fit, hr2, q⟩ := h
  have nd := scLWhy.nd
  refine ⟨_, (pss_cons (ps_set (i := 2) nd rfl (.inl rfl) (pe_disp (pps_cons pe_str pe_int (pps_cons pe_str pe_int (pps_cons pe_str pe_int (pps_cons pe_str pe_int (pps_cons pe_str pe_int (pps_cons pe_str pe_int (pps_cons pe_str pe_int (pps_cons pe_str pe_int (pps_cons pe_str pe_int (pps_cons pe_str pe_int pps_nil)))))))))) (by rfl) (by rfl) (fun z => by cases z) (by decide)))
     (pss_cons (ps_if (PW.pt (pw_or (pt_not (pt_val (pe_callB (id := "isinstance") (r := rIsi K) call_isi (by rfl) mI (by decide +kernel) (pa_cons (pv 0) (pa_cons (pe_bltn (v := .ty "tuple") (by rfl) mTuple (by decide +kernel) rfl) pa_nil))))) (pw_or (pt_cmpR (r := rEqD K) (op_eqD hr.units) (pv 0) (pe_tup pa_nil) (nomark _)) (pw_or (pt_not (pt_val (pe_callB (id := "isinstance") (r := rIsi K) call_isi (by rfl) mI (by decide +kernel) (pa_cons (pe_ix (r := rIxT K) ix_tup (pv 0) pe_int (fun _ _ => rfl)) (pa_cons (pe_bltn (v := .ty "str") (by rfl) mStr (by decide +kernel) rfl) pa_nil))))) (pw_or1 (pt_cmpR (r := rNeD K) (op_neD hr.units) (pe_dget1 (hu_of hr) (pv 2) (pe_ix (r := rIxT K) ix_tup (pv 0) pe_int (fun _ _ => rfl)) ⟨rfl, rfl, rfl, rfl⟩) (pe_callB (r := rLenQ K) call_len_seq (by rfl) mLen PySem.boot_len (pa_cons (pv 0) pa_nil)) (nomark _))))))) (pss_one (ps_ret pe_str)) pss_nil)
     (pss_cons (ps_set (i := 3) nd rfl (.inl rfl) (pe_ifExp (pt_cmpR (r := rIn K false) op_in_seq (pe_ix (r := rIxT K) ix_tup (pv 0) pe_int (fun _ _ => rfl)) (pe_lst (pa_cons pe_str (pa_cons pe_str (pa_cons pe_str pa_nil)))) (by with_unfolding_all rfl)) (pe_slice (r := rSlT K) sl_tup (pv 0) (po_some pe_int) po_none) (pe_op (r := rRepS0 K) op_repS0 (pe_slice (r := rSlT K) sl_tup (pv 0) (po_some pe_int) (po_some pe_int)) (pe_callTy call_int1 (by rfl) mInt (by decide +kernel) (pa_cons (pe_cmpR (r := rIn K false) op_in_seq (pe_ix (r := rIxT K) ix_tup (pv 0) pe_int (fun _ _ => rfl)) (pe_lst (pa_cons pe_str (pa_cons pe_str pa_nil))) (by with_unfolding_all rfl)) pa_nil)))))
     (pss_cons (ps_if (pt_cmpR (r := rNeD K) (op_neD hr.units) (pe_lc (own := [("word", 4)]) (g := gName 4) rfl nd (pi_tup (pv 3)) (blkOk_by (own := [("word", 4)]) (N := NLy) (sc := defScope sLWhy) (by decide +kernel)) (fun _ _ _ _ _ => pg_name (i := 4) nd rfl (Or.inl rfl)) (fun _ _ _ _ _ => pts_one (pt_not (pt_val (pe_call GW (hr.mono (by decide)) rfl mW kW bW .nil pass0 (pa_cons (pv 4) pa_nil))))) (fun _ _ _ _ _ => (pv 4))) (pe_lst pa_nil) (nomark _)) (pss_one (ps_ret pe_str)) pss_nil)
     (pss_one (ps_ret (pe_ifExp (PW.pt (pw_and (pt_cmpR (r := rIn K false) op_in_seq (pe_ix (r := rIxT K) ix_tup (pv 0) pe_int (fun _ _ => rfl)) (pe_lst (pa_cons pe_str (pa_cons pe_str pa_nil))) (by with_unfolding_all rfl)) (pw_and1 (pt_cmpR (r := rIn K false) op_in_seq (pe_ix (r := rIxT K) ix_tup (pv 0) pe_int (fun _ _ => rfl)) (pv 1) (by rfl))))) pe_str pe_non))))))), ?_⟩
  refine seq_te (fun y H' => ∃ m, y = .ref m ∧ Same H H' ∧ H' m = some (.dK manyK)) (fun R hR => ?_) fun y H1 ⟨m, ey, s1, em⟩ => ?_
  · intro p np
    refine ⟨upd_same, manyK, rfl, by decide, ?_⟩
    rw [many_merge]
    exact hR _ _ ⟨p, rfl, same_upd (same_new np) np, upd_same⟩
  subst ey
  show tSeq (tIfS _ _ _) _ _ [some v, some (.ref r), some (.ref m), none, none] H1
  have hd1 := dp_same s1 _ _ hd
  have ty := dp_ty hd1
  have wform : formQ d = false → whyQ d ar = some ("form" : Str) := fun c1 => by
    unfold formQ at c1
    split at c1
    · rename_i h' r'
      simp only [whyQ, if_neg (of_decide_eq_false c1)]
    · rename_i d' hd'
      unfold whyQ
      split
      · exact absurd rfl (hd' _ _)
      · rfl
  have end0 : ∀ H', Same H H' → formQ d = false → Q (.str "form") H' := fun H' s e => by
    have := q H' s
    rwa [wform e] at this
  refine seq_any (fun σ' H' => σ' = [some v, some (.ref r), some (.ref m), none, none] ∧ Same H H' ∧ formQ d = true) (fun D' rt' nx' => ?_) fun σ' H2 ⟨eσ, s2, fq⟩ => ?_
  · have out : ∀ H', Same H H' → formQ d = false → tRet (tC (V.str "form")) D' [some v, some (.ref r), some (.ref m), none, none] H' := fun H' s e => by
      show D'.rt (.str "form") H'
      rw [rt']
      exact end0 _ s e
    refine ⟨_, rfl, v, .ty "tuple", _, _, _, rfl, .ty "tuple", ty, kit_data (by simp) d, _, rfl, ?_⟩
    cases c1 : isT "tuple" d with
    | false =>
      refine iteT' rfl (out _ s1 ?_)
      cases d with
      | tuple ds => exact absurd c1 (by simp only [isT, tyN]; decide)
      | _ => rfl
    | true =>
      refine iteF' rfl ?_
      cases hd1 with
      | @tup a xs ds hs ha =>
        have len := dpAll_len ha
        refine ⟨_, rfl, Nat.zero_le _, fun p np => ?_⟩
        have sp := same_new np (o := .tup [])
        refine ⟨.tuple ds, .tuple [], .tup (sqT_same sp hs) (dpAll_same sp _ _ ha), .tup (SqT.of upd_same) .nil, fit.shaped, by decide +kernel, _, rfl, ?_⟩
        rw [eqv_tnil]
        have s2 := s1.trans sp
        have hs := sqT_same sp hs
        have ha := dpAll_same sp _ _ ha
        have em := sp _ _ em
        generalize L2.upd H1 p (.tup []) = H2 at *
        cases ha with
        | nil => exact iteT' (by simp) (out _ s2 rfl)
        | @cons v0 vs0 d0 ds0 h0 r0 =>
          refine iteF' (by simp) ?_
          have ty0 := dp_ty h0
          refine ⟨_, rfl, a, _, 0, _, rfl, rfl, hs, atI_nat (j := 0) rfl, v0, .ty "str", _, _, _, rfl, .ty "str", ty0, kit_data (by simp) d0, _, rfl, ?_⟩
          cases c2 : isT "str" d0 with
          | false =>
            refine iteT' rfl (out _ s2 ?_)
            cases d0 with
            | str x => exact absurd c2 (by simp only [isT, tyN]; decide)
            | _ => rfl
          | true =>
            refine iteF' rfl ?_
            cases h0 with
            | str h =>
              have l0 := dpAll_len r0
              refine ⟨_, rfl, m, rfl, .inl ⟨_, .inl em⟩, _, rfl, a, _, 0, _, rfl, rfl, hs, atI_nat (j := 0) rfl, _, DGet.k (k := Sum.inr h) em, ?_⟩
              rw [many_at]
              obtain ⟨e, de, she, ee⟩ := opt_len (K := K) (H := H2) (lenW h) ((V.str h :: vs0).length)
              refine ⟨_, rfl, a, _, rfl, .inr hs, e, .int (((V.str h :: vs0).length : Nat) : Int), de, .int _, she, rfl, _, rfl, ?_⟩
              rw [ee, List.length_cons, l0]
              have el : formQ (.tuple (.str h :: ds0)) = decide (lenW h = some (ds0.length + 1)) := rfl
              cases c3 : decide (lenW h = some (ds0.length + 1)) with
              | false => exact iteT' rfl (out _ s2 (by rw [el, c3]))
              | true => exact iteF' rfl (nx' _ _ ⟨rfl, s2, by rw [el, c3]⟩)
            | _ => exact absurd c2 (by simp only [isT, tyN]; decide)
      | _ => exact absurd c1 (by simp only [isT, tyN]; decide)
  subst eσ
  obtain ⟨h, ds, rfl, l⟩ : ∃ h ds, d = .tuple (.str h :: ds) ∧ lenW h = some (ds.length + 1) := by
    unfold formQ at fq
    split at fq
    · exact ⟨_, _, rfl, of_decide_eq_true fq⟩
    · cases fq
  have hd2 := dp_same s2 _ _ hd
  clear hd1 hd
  cases hd2 with
  | @tup a xs _ hs ha =>
  cases ha with
  | @cons v0 vs0 _ _ h0 r0 =>
  cases h0
  have l0 := dpAll_len r0
  have le := lenW_le l
  have ew : whyQ (.tuple (.str h :: ds)) ar = if (wordsQ h ds).all wordQ then (if boundQ h ds ar then some ("bound" : Str) else none) else some ("word" : Str) := by simp only [whyQ, if_pos l]
  rw [ew] at q
  have al := dpAll_words (h := h) r0
  refine seq_te (fun y H' => ∃ p, y = .ref p ∧ Same H2 H' ∧ SqT K H' p (wordsQ h vs0)) (fun R hR => ?_) fun y H3 ⟨p, ey, s3, hp⟩ => ?_
  · refine headinL_read atomsL rfl hs (by decide) fun H3 s3 => ?_
    have hs3 := sqT_same s3 hs
    have neS : ∀ hi, ¬ (HT.sIx (V.str h :: vs0).length 0 (some 1) = 0 ∧ HT.sIx (V.str h :: vs0).length (V.str h :: vs0).length hi = (V.str h :: vs0).length) := fun hi ⟨z, _⟩ => by
      rw [show HT.sIx (V.str h :: vs0).length 0 (some 1) = min 1 (V.str h :: vs0).length from HT.sIx_nat _ 0 1, List.length_cons] at z
      omega
    cases c1 : decide (h ∈ atomsL) with
    | true =>
      refine iteT' rfl ⟨_, rfl, 1, rfl, a, _, rfl, hs3, neS _, fun p np => ?_⟩
      rw [cut_one]
      refine hR _ _ ⟨p, rfl, s3.trans (same_new np), SqT.of ?_⟩
      rw [upd_same]
      unfold wordsQ
      rw [show atomW h = true from c1]; rfl
    | false =>
      refine iteF' rfl ⟨_, rfl, 1, rfl, 2, rfl, a, _, rfl, hs3, neS _, fun p np => ?_⟩
      rw [cut_12]
      have sp := same_new np (o := .tup (vs0.take 1))
      have ep : L2.upd H3 p (.tup (vs0.take 1)) p = some (.tup (vs0.take 1)) := upd_same
      have s4 := s3.trans sp
      generalize L2.upd H3 p (.tup (vs0.take 1)) = H4 at *
      refine headinL_val quansL rfl (sqT_same s4 hs) (by decide) fun H5 s5 => nil_read (.inr ⟨_, rfl, ?_⟩)
      have ep := s5 _ _ ep
      have s25 := s4.trans s5
      cases c2 : decide (h ∈ quansL) with
      | true =>
        have l2 := len_quan l c2
        obtain ⟨x, y, rfl⟩ : ∃ x y, vs0 = [x, y] := by
          have l2' : vs0.length = 2 := by omega
          match vs0, l2' with
          | [x, y], _ => exact ⟨x, y, rfl⟩
        refine .inl ⟨p, 1, x, rfl, rfl, ep, by decide, fun p2 H6 s6 e6 => hR _ _ ⟨p2, rfl, s25.trans s6, SqT.of ?_⟩⟩
        rw [e6]
        unfold wordsQ
        rw [show atomW h = false from c1, show quanW h = true from c2]; rfl
      | false =>
        have wq : wordsQ h vs0 = [] := by unfold wordsQ; rw [show atomW h = false from c1, show quanW h = false from c2]; rfl
        cases vs0 with
        | nil => exact .inr ⟨p, rfl, rfl, ep, fun p2 H6 s6 e6 => hR _ _ ⟨p2, rfl, s25.trans s6, SqT.of (by rw [e6, wq])⟩⟩
        | cons x r => exact .inl ⟨p, 0, x, rfl, rfl, ep, by decide, fun p2 H6 s6 e6 => hR _ _ ⟨p2, rfl, s25.trans s6, SqT.of (by rw [e6, wq]; rfl)⟩⟩
  subst ey
  show tSeq (tIfS _ _ _) _ _ [some (.ref a), some (.ref r), some (.ref m), some (.ref p), none] H3
  have al3 := dpAll_same s3 _ _ al
  have la := dpAll_len al
  have wl := words_len (h := h) (r := ds)
  have wsub : ∀ x ∈ wordsQ h ds, x ∈ (PyData.str h :: ds) := fun x hx => by
    unfold wordsQ at hx
    split at hx
    · exact List.mem_cons_of_mem _ hx
    · split at hx
      · exact List.mem_cons_of_mem _ (List.mem_of_mem_take hx)
      · cases hx
  refine seq_any (fun σ' H' => σ' = [some (.ref a), some (.ref r), some (.ref m), some (.ref p), none] ∧ Same H H' ∧ Same H2 H' ∧ (wordsQ h ds).all wordQ = true) (fun D' rt' nx' => ?_) fun σ' H4 ⟨eσ, s4, s24, wall⟩ => ?_
  · refine ⟨_, rfl, p, rfl, ⟨_, hp⟩, fun D nD => ?_⟩
    refine lc_opts (walk_tup (K := K) (a := p) (xs := wordsQ h vs0)) (((wordsQ h vs0).zip (wordsQ h ds)).map fun z => if (!wordQ z.2) = true then some z.1 else none) (by rw [List.length_map, List.length_zip, la, Nat.min_self]) (Nat.lt_of_le_of_lt (show (wordsQ h vs0).length ≤ 10000 by omega) (by decide)) nD (fun H' s' => sqT_same s' hp) (fun _ _ _ _ y => by rw [y.1]; exact fun _ _ h => h) (fun i x H9 H' o hi ho s' y R N hR hN => ?_) fun H5 s5 e5 => ?_
    · obtain ⟨rfl, hx⟩ := y
      obtain ⟨z, hz, ez⟩ : ∃ z, ((wordsQ h vs0).zip (wordsQ h ds))[i]? = some z ∧ (if (!wordQ z.2) = true then some z.1 else none) = o := by
        rw [List.getElem?_map] at ho
        obtain ⟨z, hz, e⟩ := Option.map_eq_some_iff.mp ho
        exact ⟨z, hz, e⟩
      obtain ⟨z1, z2⟩ := z
      obtain ⟨h1, h2⟩ := List.getElem?_zip_eq_some.mp hz
      have ex : x = z1 := by rw [hx] at h1; injection h1
      subst ex
      have dz := dp_same s' _ _ (dpAll_get al3 h1 h2)
      have m2 := List.mem_of_getElem? h2
      refine ⟨rfl, _, rfl, nil_read (show spLWord K [x] H' _ E0 from ⟨x, z2, rfl, dz, fun y ey => ?_, fun H6 s6 => ⟨_, rfl, ?_⟩⟩)⟩
      · subst ey
        refine ⟨fit.words _ _ rfl l y m2, ?_⟩
        have sh := shaped_tup fit.shaped _ (wsub _ m2)
        have sh' : (PyData.canLay0 (.str y) && decide (PyData.depth (.str y) ≤ 64)) = true := sh
        rw [Bool.and_eq_true] at sh'
        exact sh'.1
      · cases c5 : wordQ z2 with
        | true => rw [c5] at ez; exact iteF' rfl (hN ez.symm _ s6)
        | false => rw [c5] at ez; exact iteT' rfl ⟨_, rfl, hR _ _ ez.symm s6⟩
    · have eb : DpAll K H3 ((((wordsQ h vs0).zip (wordsQ h ds)).map fun z => if (!wordQ z.2) = true then some z.1 else none).filterMap id) ((wordsQ h ds).filter fun z => !wordQ z) := bad_dp al3
      have s25 := (s2.trans s3).trans s5
      refine ⟨Nat.zero_le _, fun p2 np2 => ?_⟩
      have sp := same_new np2 (o := .lst [])
      refine ⟨.list ((wordsQ h ds).filter fun z => !wordQ z), .list [], .lst (SqL.of (sp _ _ e5)) (dpAll_same (s5.trans sp) _ _ eb), .lst (SqL.of upd_same) .nil, shaped_sub fit.shaped (fun x hx => wsub x (List.mem_filter.mp hx).1), by decide +kernel, _, rfl, ?_⟩
      rw [eqv_nil, bad_all]
      cases c6 : (wordsQ h ds).all wordQ with
      | true => exact iteF' rfl (nx' _ _ ⟨rfl, s25.trans sp, (s3.trans s5).trans sp, c6⟩)
      | false =>
        refine iteT' rfl ?_
        show D'.rt (.str "word") _
        rw [rt']
        have := q _ (s25.trans sp)
        rw [c6] at this
        exact this
  subst eσ
  rw [wall] at q
  have hs4 := sqT_same s24 hs
  refine headinL_read quansL rfl hs4 (by decide) fun H5 s5 => ?_
  have s05 := s4.trans s5
  cases c3 : decide (h ∈ quansL) with
  | false =>
    refine iteF' rfl (iteF' rfl ?_)
    have e : boundQ h ds ar = false := by unfold boundQ; rw [show quanW h = false from c3]; rfl
    rw [e] at q
    exact q _ s05
  | true =>
    refine iteT' rfl ?_
    have l2 := len_quan l c3
    have l2' : ds.length = 2 := by omega
    obtain ⟨d1, d2, rfl⟩ : ∃ x y, ds = [x, y] := by
      match ds, l2' with
      | [x, y], _ => exact ⟨x, y, rfl⟩
    have ew2 : wordsQ h [d1, d2] = [d1] := by unfold wordsQ; rw [show quanW h = true from c3]; rcases (by simpa [quanW] using c3 : h = "some" ∨ h = "all") with e | e <;> (rw [e, show atomW _ = false by decide +kernel]; rfl)
    rw [ew2] at wall
    cases r0 with
    | @cons v1 _ _ _ g1 r1 =>
    cases g1 with
    | str x =>
      have eb : boundQ h [.str x, d2] ar = decide (x ∈ ar) := by unfold boundQ; rw [show quanW h = true from c3]; rfl
      rw [eb] at q
      refine ⟨_, rfl, a, _, 1, _, rfl, rfl, sqT_same s5 hs4, atI_nat (j := 1) rfl, _, rfl, r, _, rfl, .inl (L2.Same.seq s05 hr2), rfl, flat_words ar, _, rfl, ?_⟩
      show if inV (V.str x) (ar.map V.str) = true then _ else _
      rw [inV_words]
      cases c4 : decide (x ∈ ar) with
      | true => rw [c4] at q; exact iteT' rfl (q _ s05)
      | false => rw [c4] at q; exact iteF' rfl (q _ s05)
    | _ => exact absurd wall (by simp [wordQ])
end
end DQ

set_option Elab.async false
set_option linter.all false
set_option maxRecDepth 100000
set_option maxHeartbeats 1000000
namespace DQ
open PySem PySem.Spec PyProof.Rows L2
/-! ### _law_first_wrong, _law_places -/
abbrev sLFirst : Stmt := topS 43
abbrev sPlaces : Stmt := topS 45
abbrev NLf : List Str := ["value", "place", "around", "why", "more", "at", "part", "found"]
abbrev NPl : List Str := ["value", "place", "found", "at", "part"]
theorem scLFirst : FnScope NLf ["value", "place", "around"] (defScope sLFirst) := ⟨rfl, rfl, rfl, by decide +kernel, rfl, by decide +kernel, by decide +kernel⟩
theorem scPlaces : FnScope NPl ["value", "place"] (defScope sPlaces) := ⟨rfl, rfl, rfl, by decide +kernel, rfl, by decide +kernel, by decide +kernel⟩
section
variable {P : Program} {w : World} {K : PySem.W.Frag} {mg : Str → Option Value} {base : Heap}
theorem cat_read {H : Hp} {a b : Addr} {xs ys : List V} {R : VK} (ha : SqT K H a xs) (hb : SqT K H b ys) (few : xs.length + ys.length ≤ 10000) (q : ∀ p H', Same H H' → SqT K H' p (xs ++ ys) → R (.ref p) H') : rCatA K (.ref a) (.ref b) H R := by
  refine ⟨a, b, xs, ys, rfl, rfl, ha, hb, by rw [sizeLine_eq]; omega, fun e => q b H (Same.refl _) (by rw [e]; exact hb), fun _ e => q a H (Same.refl _) (by rw [e, List.append_nil]; exact ha), fun _ _ p np => q p _ (same_new np) (SqT.of upd_same)⟩
/-- place + (at,) -/
theorem step_read {σ : L2.St} {H : Hp} {R : VK} {i j : Nat} {pa : Addr} {p : List Nat} {k : Nat} (hi : σ[i]? = some (some (.ref pa))) (hj : σ[j]? = some (some (.int (k : Nat)))) (hp : SqT K H pa (pV p)) (few : p.length ≤ 1000) (q : ∀ p' H', Same H H' → SqT K H' p' (pV (p ++ [k])) → R (.ref p') H') : tOp (rCatA K) (tVar i) (tTup (tCons (tVar j) tNil)) σ H R := by
  refine ⟨_, hi, _, hj, by show 1 ≤ sizeLine; decide, fun t nt => ?_⟩
  have st := same_new nt (o := .tup [V.int (k : Nat)])
  refine cat_read (sqT_same st hp) (SqT.of upd_same) (by unfold pV; rw [List.length_map]; show _ + 1 ≤ _; omega) fun p' H' s' h' => q p' H' (st.trans s') ?_
  have : pV (p ++ [k]) = pV p ++ [V.int (k : Nat)] := by unfold pV; rw [List.map_append]; rfl
  rw [this]; exact h'
def spLFirst (K : PySem.W.Frag) (N : Nat) : Sp := fun vs H Q _ => ∃ (v : V) (p r : Addr) (e : En), vs = [v, .ref p, .ref r] ∧ Dp K H v e.g.d ∧ e.g.good ∧ e.g.dep < N ∧ SqT K H p (pV e.p) ∧ H r = some (.lst (e.ar.map V.str)) ∧ e.p.length + e.g.dep ≤ 1000 ∧ e.ar.length + e.g.dep ≤ 1000 ∧ ∀ x H', Same H H' → Dp K H' x (wrongD (fw1 e.g e.p e.ar)) → Q x H'
theorem lfirst_none {f : Addr} {fd : FuncData} (F : Fun K "_law_first_wrong" "_law_first_wrong" sLFirst f fd) : FnOk P w K mg base CX0 3 f fd ["value", "place", "around"] (spLFirst K 0) := by
  refine F.ok scLFirst (fun vs H Q E h => ?_) (fun cdv A outer s H vs Q E hr h => ?_)
  · obtain ⟨_, _, _, _, rfl, _⟩ := h
    rfl
  · obtain ⟨_, _, _, _, _, _, _, h, _⟩ := h
    exact absurd h (Nat.not_lt_zero _)
theorem kid_dep {e k : En} (h : k ∈ e.kids) : k.g.dep < e.g.dep ∧ k.p.length = e.p.length + 1 ∧ k.ar.length ≤ e.ar.length + 1 := by
  obtain ⟨g, p, ar⟩ := e
  cases g with
  | nt a => rw [List.mem_singleton.mp h]; exact ⟨Nat.lt_succ_self _, by simp, by simp⟩
  | cn b a c =>
    rcases List.mem_cons.mp h with rfl | h
    · refine ⟨?_, by simp, by simp⟩
      show a.dep < max a.dep c.dep + 1
      omega
    · rw [List.mem_singleton.mp h]
      refine ⟨?_, by simp, by simp⟩
      show c.dep < max a.dep c.dep + 1
      omega
  | qu b x a => rw [List.mem_singleton.mp h]; exact ⟨Nat.lt_succ_self _, by simp, by simp⟩
  | _ => cases h
theorem lfirst_step {N : Nat} {f fW fI : Addr} {fd dW dI : FuncData} (F : Fun K "_law_first_wrong" "_law_first_wrong" sLFirst f fd) (GW : FnOk P w K mg base CX0 2 fW dW ["value", "around"] (spLWhy K)) (bW : Binds K dW ["value", "around"] []) (kW : PySem.W.keepIn K (.ref fW) = true) (mW : mg "_law_why" = some (.ref fW))
    (GI : FnOk P w K mg base CX0 1 fI dI ["value"] (spPickL K partsQ)) (bI : Binds K dI ["value"] []) (kI : PySem.W.keepIn K (.ref fI) = true) (mI : mg "_law_within_of" = some (.ref fI))
    (GR : FnOk P w K mg base CX0 (N + 3) f fd ["value", "place", "around"] (spLFirst K N)) (bR : Binds K fd ["value", "place", "around"] []) (kR : PySem.W.keepIn K (.ref f) = true) (mR : mg "_law_first_wrong" = some (.ref f)) (mEnum : mg "enumerate" = none) : FnOk P w K mg base CX0 (N + 4) f fd ["value", "place", "around"] (spLFirst K (N + 1)) := by
  refine F.ok scLFirst (fun vs H Q E h => ?_) (fun cdv A outer s H vs Q E hr h => ?_)
  · obtain ⟨_, _, _, _, rfl, _⟩ := h
    rfl
  obtain ⟨v, p, r, e, rfl, hd, good, dep, hp, hr2, pl, al, q⟩ := h
  have nd := scLFirst.nd
  refine ⟨_, (pss_cons (ps_set (i := 3) nd rfl (.inl rfl) (pe_call GW (hr.mono (by omega)) rfl mW kW bW .nil pass0 (pa_cons (pv 0) (pa_cons (pv 2) pa_nil))))
     (pss_cons (ps_if (pt_cmpR op_notN (pv 3) pe_non (nomark _)) (pss_one (ps_ret (pe_tup (pa_cons (pv 1) (pa_cons (pv 3) pa_nil))))) pss_nil)
     (pss_cons (ps_set (i := 4) nd rfl (.inl rfl) (pe_ifExp (pt_cmpR (r := rIn K false) op_in_seq (pe_ix (r := rIxT K) ix_tup (pv 0) pe_int (fun _ _ => rfl)) (pe_lst (pa_cons pe_str (pa_cons pe_str pa_nil))) (by with_unfolding_all rfl)) (pe_op op_cat (pv 2) (pe_lst (pa_cons (pe_ix (r := rIxT K) ix_tup (pv 0) pe_int (fun _ _ => rfl)) pa_nil))) (pv 2)))
     (pss_cons (ps_for PassesOwn.never rfl (pi_enum (by rfl) mEnum (pa_cons (pe_call GI (hr.mono (by omega)) rfl mI kI bI .nil pass0 (pa_cons (pv 0) pa_nil)) pa_nil)) (pg_tup rfl (pgs_cons (pg_name (i := 5) nd rfl (.inl rfl)) (pgs_cons (pg_name (i := 6) nd rfl (.inl rfl)) pgs_nil))) (pss_cons (ps_set (i := 7) nd rfl (.inl rfl) (pe_call GR (hr.mono (by omega)) rfl mR kR bR .nil pass0 (pa_cons (pv 6) (pa_cons (pe_op op_catA (pv 1) (pe_tup (pa_cons (pv 5) pa_nil))) (pa_cons (pv 4) pa_nil))))) (pss_one (ps_if (pt_cmpR op_notN (pv 7) pe_non (nomark _)) (pss_one (ps_ret (pv 7))) pss_nil))))
     (pss_one (ps_ret pe_non)))))), ?_⟩
  have fw := fw1_eq e
  refine seq_te (fun y H' => y = optV e.why ∧ Same H H') (fun R hR => ⟨_, rfl, _, rfl, nil_read (show spLWhy K [v, .ref r] H R E0 from ⟨v, r, e.g.d, e.ar, rfl, hd, fit_of good, SqL.of hr2, fun H' s' => hR _ _ ⟨by rw [why_of good.1]; rfl, s'⟩⟩)⟩) fun y H1 ⟨ey, s1⟩ => ?_
  subst ey
  show tSeq (tIfS _ _ _) _ _ [some v, some (.ref p), some (.ref r), some (optV e.why), none, none, none, none] H1
  refine seq_any (fun σ2 H' => σ2 = [some v, some (.ref p), some (.ref r), some .non, none, none, none, none] ∧ H' = H1 ∧ e.why = none) (fun D' rt' nx' => ?_) fun σ2 H2 ⟨eσ, eH, ewy⟩ => ?_
  · cases hy : e.why with
    | none => exact ⟨_, rfl, rfl, _, rfl, iteF' rfl (nx' _ _ ⟨rfl, rfl, hy⟩)⟩
    | some y =>
      refine ⟨_, rfl, rfl, _, rfl, iteT' rfl ⟨_, rfl, _, rfl, by show 2 ≤ sizeLine; decide, fun t nt => ?_⟩⟩
      rw [rt']
      have st := same_new nt (o := .tup [V.ref p, .str y])
      refine q _ _ (s1.trans st) ?_
      rw [fw, hy]
      exact .tup (SqT.of upd_same) (.cons (.tup (sqT_same (s1.trans st) hp) (dpAll_pV e.p)) (.cons (.str y) .nil))
  subst eσ
  subst eH
  obtain ⟨wd, rs, ed, lw, parts, qyes, qno, _⟩ := node_of good.1 (ar := e.ar) ewy
  rw [ed] at hd
  cases hd with
  | @tup ax vx _ hx rx =>
  cases rx with
  | @cons v0 vr _ _ g0 rr =>
  cases g0
  have hx2 := sqT_same s1 hx
  have lrr := dpAll_len rr
  have le4 := lenW_le lw
  refine seq_te (fun y H' => ∃ ri, y = .ref ri ∧ Same H2 H' ∧ H' ri = some (.lst ((if quanW wd = true then e.ar ++ [nameG e.g] else e.ar).map V.str))) (fun R hR => ?_) fun y H3 ⟨ri, ey, s3, hri⟩ => ?_
  · refine headinL_read quansL rfl hx2 (by decide) fun H3 s3 => ?_
    have hx3 := sqT_same s3 hx2
    have hr3 := s3 _ _ (s1 _ _ hr2)
    cases c1 : decide (wd ∈ quansL) with
    | true =>
      obtain ⟨b, z, g', eg, _, er⟩ := qyes c1
      subst er
      cases rr with
      | @cons v1 _ _ _ g1 _ =>
      cases g1
      refine iteT' rfl ⟨_, rfl, _, rfl, ax, _, 1, _, rfl, rfl, hx3, atI_nat (j := 1) rfl, by show 1 ≤ sizeLine; decide, fun p1 np1 => ?_⟩
      have s4 := same_new np1 (o := .lst [V.str z])
      have ne : r ≠ p1 := ne_of_none hr3 np1
      refine ⟨r, p1, _, _, rfl, rfl, s4 _ _ hr3, upd_same, by rw [List.length_map, sizeLine_eq]; show _ + 1 ≤ _; omega, fun p2 np2 => hR _ _ ⟨p2, rfl, (s3.trans s4).trans (same_new np2), ?_⟩⟩
      rw [upd_same, if_pos (show quanW wd = true from c1), eg, List.map_append]; rfl
    | false => exact iteF' rfl ⟨_, rfl, hR _ _ ⟨r, rfl, s3, by rw [show quanW wd = false from c1]; exact hr3⟩⟩
  subst ey
  show tSeq (tFor _ _ _) _ _ [some (.ref ax), some (.ref p), some (.ref r), some .non, some (.ref ri), none, none, none] H3
  have s13 := s1.trans s3
  have hx3 := sqT_same s13 hx
  have al2 := dpAll_parts (h := wd) rr
  have lal := dpAll_len al2
  have kl : (partsQ wd rs).length = e.kids.length := by
    rw [parts, List.length_map]
    show _ = (kidsG e.g e.p e.ar).length
    cases e.g <;> rfl
  refine ⟨.ref ax, rfl, nil_read (show spPickL K partsQ [.ref ax] H3 _ E0 from ⟨ax, wd, vr, rfl, hx3, by omega, by rw [lrr]; exact lw, fun pl H4 s4 np e4 => nil_read ⟨pl, _, rfl, SqL.of e4, ?_⟩⟩)⟩
  have s14 := s13.trans s4
  refine for_it (walk_enum (K := K) (a := pl) (xs := partsQ wd vr)) (fun i σ' H' => ∃ o5 o6 o7, σ' = [some (.ref ax), some (.ref p), some (.ref r), some .non, some (.ref ri), o5, o6, o7] ∧ Same H4 H' ∧ (e.kids.take i).findSome? (fun k => fw1 k.g k.p k.ar) = none) ⟨none, none, none, rfl, Same.refl _, rfl⟩ (fun i σ' H' _ pv => ?_) (fun i z σ' H' H'' hi pv y => ?_) fun σ' H' pv => ?_
  · obtain ⟨_, _, _, _, s', _⟩ := pv
    exact L2.Same.seq s' (SqL.of e4)
  · obtain ⟨o5, o6, o7, rfl, s5, none⟩ := pv
    obtain ⟨T, x1, x2, rfl, nT, rfl, e1, e2⟩ := y
    injection e1 with e1
    subst e1
    have sT := same_new nT (o := .tup [V.int (i : Nat), x2])
    refine ⟨T, _, rfl, SqT.of upd_same, rfl, _, _, rfl, _, _, rfl, rfl, ?_⟩
    have s6 := s5.trans sT
    generalize L2.upd H' T (.tup [V.int (i : Nat), x2]) = H6 at *
    have hik : i < e.kids.length := by rw [← kl, ← lal]; exact hi
    have hk : e.kids[i]? = some e.kids[i] := List.getElem?_eq_getElem hik
    obtain ⟨kp, ⟨e', he', eg'⟩, ka, kb⟩ := kid_at (g := e.g) (p := e.p) (ar := e.ar) hk
    have kar : e.kids[i].ar = if quanW wd = true then e.ar ++ [nameG e.g] else e.ar := by
      cases c1 : quanW wd with
      | true =>
        obtain ⟨b, z, g', eg, _, _⟩ := qyes c1
        rw [ka _ _ _ eg, eg]; rfl
      | false => rw [kb (qno c1)]; rfl
    have hdd : (partsQ wd rs)[i]? = some (e.kids[i]).g.d := by
      rw [parts, List.getElem?_map]
      have : (kidsG e.g [] e.ar)[i]?.map (fun k => k.g.d) = (kidsG e.g [] [])[i]?.map (fun k => k.g.d) := by cases e.g <;> (match i with | 0 => rfl | 1 => rfl | i + 2 => rfl)
      rw [this, he', ← eg']; rfl
    have mk : e.kids[i] ∈ e.kids := List.getElem_mem hik
    obtain ⟨kd, kpl, kal⟩ := kid_dep mk
    have kg := kids_good good _ mk
    generalize e.kids[i] = k at *
    refine seq_te (fun y H' => ∃ H0, Same H6 H' ∧ H0 = H' ∧ Dp K H' y (wrongD (fw1 k.g k.p k.ar))) (fun R hR => ?_) fun y H7 ⟨_, s7, _, dy⟩ => ?_
    · refine ⟨x2, rfl, step_read rfl rfl (sqT_same (s14.trans s6) hp) (by omega) fun p' H7 s7 hp' => ⟨.ref ri, rfl, nil_read (show spLFirst K N [x2, .ref p', .ref ri] H7 R E0 from ⟨x2, p', ri, k, rfl, dp_same ((s14.trans s6).trans s7) _ _ (dpAll_get al2 e2 hdd), kg, by omega, by rw [kp]; exact hp', by rw [kar]; exact s7 _ _ (s6 _ _ (s4 _ _ hri)), by omega, by omega, fun x H8 s8 dx => hR _ _ ⟨H8, s7.trans s8, rfl, dx⟩⟩)⟩⟩
    have s8 := s6.trans s7
    have tk : (e.kids.take (i + 1)).findSome? (fun k => fw1 k.g k.p k.ar) = fw1 k.g k.p k.ar := by
      rw [take_next hk, List.findSome?_append, none, Option.none_or, List.findSome?_cons]
      cases fw1 k.g k.p k.ar <;> rfl
    cases hf : fw1 k.g k.p k.ar with
    | none =>
      rw [hf] at dy tk
      cases dy
      exact ⟨_, rfl, rfl, _, rfl, iteF' rfl ⟨_, _, _, rfl, s8, tk⟩⟩
    | some pr =>
      obtain ⟨pp, yy⟩ := pr
      rw [hf] at dy tk
      cases dy with
      | @tup ay vy _ hy ry =>
      refine ⟨_, rfl, rfl, _, rfl, iteT' rfl ⟨_, rfl, q _ _ (s14.trans s8) ?_⟩⟩
      rw [fw, ewy]
      have whole : e.kids.findSome? (fun k => fw1 k.g k.p k.ar) = some (pp, yy) := by
        rw [← List.take_append_drop (i + 1) e.kids, List.findSome?_append, tk]; rfl
      show Dp K H7 _ (wrongD (e.kids.findSome? fun k => fw1 k.g k.p k.ar))
      rw [whole]
      exact .tup hy ry
  · obtain ⟨o5, o6, o7, rfl, s5, none⟩ := pv
    rw [lal, kl, List.take_length] at none
    refine q _ _ (s14.trans s5) ?_
    rw [fw, ewy]
    show Dp K H' _ (wrongD (e.kids.findSome? fun k => fw1 k.g k.p k.ar))
    rw [none]
    exact .non
theorem ok_lfirst {f fW fI : Addr} {fd dW dI : FuncData} (F : Fun K "_law_first_wrong" "_law_first_wrong" sLFirst f fd) (GW : FnOk P w K mg base CX0 2 fW dW ["value", "around"] (spLWhy K)) (bW : Binds K dW ["value", "around"] []) (kW : PySem.W.keepIn K (.ref fW) = true) (mW : mg "_law_why" = some (.ref fW))
    (GI : FnOk P w K mg base CX0 1 fI dI ["value"] (spPickL K partsQ)) (bI : Binds K dI ["value"] []) (kI : PySem.W.keepIn K (.ref fI) = true) (mI : mg "_law_within_of" = some (.ref fI))
    (bR : Binds K fd ["value", "place", "around"] []) (kR : PySem.W.keepIn K (.ref f) = true) (mR : mg "_law_first_wrong" = some (.ref f)) (mEnum : mg "enumerate" = none) : ∀ N : Nat, FnOk P w K mg base CX0 (N + 3) f fd ["value", "place", "around"] (spLFirst K N)
  | 0 => lfirst_none F
  | N + 1 => lfirst_step F GW bW kW mW GI bI kI mI (ok_lfirst F GW bW kW mW GI bI kI mI bR kR mR mEnum N) bR kR mR mEnum
end
end DQ

set_option Elab.async false
set_option linter.all false
set_option maxRecDepth 100000
set_option maxHeartbeats 1000000
namespace DQ
open PySem PySem.Spec PyProof.Rows L2
/-! ### _law_places -/
section
variable {P : Program} {w : World} {K : PySem.W.Frag} {mg : Str → Option Value} {base : Heap}
def placeD (p : List Nat) : PyData := .tuple (p.map fun (k : Nat) => .int (k : Nat))
/-- a tuple of place and value -/
def Plc (K : PySem.W.Frag) (H : Hp) (v : V) (e : En) : Prop := ∃ (a pa : Addr) (x : V), v = .ref a ∧ SqT K H a [.ref pa, x] ∧ SqT K H pa (pV e.p) ∧ Dp K H x e.g.d
theorem Plc.same {H H' : Hp} {v : V} {e : En} (s : Same H H') (h : Plc K H v e) : Plc K H' v e := by
  obtain ⟨a, pa, x, e1, h1, h2, h3⟩ := h
  exact ⟨a, pa, x, e1, sqT_same s h1, sqT_same s h2, dp_same s _ _ h3⟩
def Plcs (K : PySem.W.Frag) (H : Hp) : List V → List En → Prop
  | [], [] => True
  | v :: vs, e :: es => Plc K H v e ∧ Plcs K H vs es
  | _, _ => False
theorem Plcs.same {H H' : Hp} (s : Same H H') : ∀ {vs : List V} {es : List En}, Plcs K H vs es → Plcs K H' vs es
  | [], [], _ => True.intro
  | _ :: _, _ :: _, h => ⟨h.1.same s, Plcs.same s h.2⟩
theorem Plcs.app {H : Hp} : ∀ {vs ws : List V} {es fs : List En}, Plcs K H vs es → Plcs K H ws fs → Plcs K H (vs ++ ws) (es ++ fs)
  | [], _, [], _, _, h => h
  | _ :: _, _, _ :: _, _, h, g => ⟨h.1, Plcs.app h.2 g⟩
theorem Plcs.len {H : Hp} : ∀ {vs : List V} {es : List En}, Plcs K H vs es → vs.length = es.length
  | [], [], _ => rfl
  | _ :: _, _ :: _, h => by rw [List.length_cons, List.length_cons, Plcs.len h.2]
theorem plcs_split {H : Hp} : ∀ {ws : List V} {S : List En}, Plcs K H ws S → ∃ pls vals : List V, DpAll K H pls (S.map fun e => placeD e.p) ∧ DpAll K H vals (S.map fun e => e.g.d) ∧ ∀ (i : Nat) v, ws[i]? = some v → ∃ a x y, v = .ref a ∧ pls[i]? = some x ∧ vals[i]? = some y ∧ SqT K H a [x, y]
  | [], [], _ => ⟨[], [], .nil, .nil, fun i v h => by simp at h⟩
  | v :: ws, e :: S, h => by
    obtain ⟨pls, vals, d1, d2, at_⟩ := plcs_split h.2
    obtain ⟨a, pa, x, rfl, h1, h2, h3⟩ := h.1
    refine ⟨.ref pa :: pls, x :: vals, .cons (.tup h2 (dpAll_pV e.p)) d1, .cons h3 d2, fun i v hv => ?_⟩
    cases i with
    | zero => cases hv; exact ⟨a, _, x, rfl, rfl, rfl, h1⟩
    | succ i => exact at_ i v (by simpa using hv)
def spPlaces (K : PySem.W.Frag) (N : Nat) : Sp := fun vs H Q _ => ∃ (v : V) (p : Addr) (e : En), vs = [v, .ref p] ∧ Dp K H v e.g.d ∧ e.g.good ∧ (∀ k ∈ e.pre, k.why = none) ∧ e.g.dep < N ∧ e.g.sz ≤ 1000 ∧ SqT K H p (pV e.p) ∧ e.p.length + e.g.dep ≤ 1000 ∧ ∀ l ws H', Same H H' → H l = none → H' l = some (.lst ws) → Plcs K H' ws e.pre → Q (.ref l) H'
theorem places_none {f : Addr} {fd : FuncData} (F : Fun K "_law_places" "_law_places" sPlaces f fd) : FnOk P w K mg base CX0 2 f fd ["value", "place"] (spPlaces K 0) := by
  refine F.ok scPlaces (fun vs H Q E h => ?_) (fun cdv A outer s H vs Q E hr h => ?_)
  · obtain ⟨_, _, _, rfl, _⟩ := h
    rfl
  · obtain ⟨_, _, _, _, _, _, _, h, _⟩ := h
    exact absurd h (Nat.not_lt_zero _)
theorem flat_take {es : List En} (i : Nat) : ((es.take i).flatMap En.pre).length ≤ (es.flatMap En.pre).length := by
  have e : (es.flatMap En.pre).length = ((es.take i).flatMap En.pre).length + ((es.drop i).flatMap En.pre).length := by
    rw [← List.length_append, ← List.flatMap_append, List.take_append_drop]
  omega
theorem places_step {N : Nat} {f fI : Addr} {fd dI : FuncData} (F : Fun K "_law_places" "_law_places" sPlaces f fd) (GI : FnOk P w K mg base CX0 1 fI dI ["value"] (spPickL K partsQ)) (bI : Binds K dI ["value"] []) (kI : PySem.W.keepIn K (.ref fI) = true) (mI : mg "_law_within_of" = some (.ref fI))
    (GR : FnOk P w K mg base CX0 (N + 2) f fd ["value", "place"] (spPlaces K N)) (bR : Binds K fd ["value", "place"] []) (kR : PySem.W.keepIn K (.ref f) = true) (mR : mg "_law_places" = some (.ref f)) (mEnum : mg "enumerate" = none) : FnOk P w K mg base CX0 (N + 3) f fd ["value", "place"] (spPlaces K (N + 1)) := by
  refine F.ok scPlaces (fun vs H Q E h => ?_) (fun cdv A outer s H vs Q E hr h => ?_)
  · obtain ⟨_, _, _, rfl, _⟩ := h
    rfl
  obtain ⟨v, p, e, rfl, hd, good, fine, dep, size, hp, pl, q⟩ := h
  have nd := scPlaces.nd
  have pre := pre_eq e
  have ewy : e.why = none := fine e (by rw [pre]; exact List.mem_cons_self)
  refine ⟨_, (pss_cons (ps_set (i := 2) nd rfl (.inl rfl) (pe_lst (pa_cons (pe_tup (pa_cons (pv 1) (pa_cons (pv 0) pa_nil))) pa_nil)))
     (pss_cons (ps_for PassesOwn.never rfl (pi_enum (by rfl) mEnum (pa_cons (pe_call GI (hr.mono (by omega)) rfl mI kI bI .nil pass0 (pa_cons (pv 0) pa_nil)) pa_nil)) (pg_tup rfl (pgs_cons (pg_name (i := 3) nd rfl (.inl rfl)) (pgs_cons (pg_name (i := 4) nd rfl (.inl rfl)) pgs_nil))) (pss_one (ps_set (i := 2) nd rfl (.inl rfl) (pe_op op_cat (pv 2) (pe_call GR (hr.mono (by omega)) rfl mR kR bR .nil pass0 (pa_cons (pv 4) (pa_cons (pe_op op_catA (pv 1) (pe_tup (pa_cons (pv 3) pa_nil))) pa_nil)))))))
     (pss_one (ps_ret (pv 2))))), ?_⟩
  refine seq_te (fun y H' => ∃ l, y = .ref l ∧ Same H H' ∧ H l = none ∧ ∃ ws, H' l = some (.lst ws) ∧ Plcs K H' ws [e]) (fun R hR => ?_) fun y H1 ⟨l, ey, s1, nl, ws0, el, pl0⟩ => ?_
  · refine ⟨_, rfl, _, rfl, by show 2 ≤ sizeLine; decide, fun t nt => ⟨by show 1 ≤ sizeLine; decide, fun l nl => ?_⟩⟩
    have s1 := same_new nt (o := .tup [V.ref p, v])
    have e1 : L2.upd H t (.tup [V.ref p, v]) t = some (.tup [V.ref p, v]) := upd_same
    generalize L2.upd H t (.tup [V.ref p, v]) = H1 at *
    have s2 := same_new nl (o := .lst [V.ref t])
    exact hR _ _ ⟨l, rfl, s1.trans s2, none_before s1 nl, _, upd_same, ⟨t, p, v, rfl, SqT.of (s2 _ _ e1), sqT_same (s1.trans s2) hp, dp_same (s1.trans s2) _ _ hd⟩, True.intro⟩
  subst ey
  show tSeq (tFor _ _ _) _ _ [some v, some (.ref p), some (.ref l), none, none] H1
  obtain ⟨wd, rs, ed, lw, parts, qyes, qno, _⟩ := node_of good.1 (ar := e.ar) ewy
  rw [ed] at hd
  cases hd with
  | @tup ax vx _ hx rx =>
  cases rx with
  | @cons v0 vr _ _ g0 rr =>
  cases g0
  have lrr := dpAll_len rr
  have le4 := lenW_le lw
  have al2 := dpAll_parts (h := wd) rr
  have lal := dpAll_len al2
  have kl : (partsQ wd rs).length = e.kids.length := by
    rw [parts, List.length_map]
    show _ = (kidsG e.g e.p e.ar).length
    cases e.g <;> rfl
  have total : (e.kids.flatMap En.pre).length + 1 = e.g.sz := by rw [← pre_len e.g e.p e.ar, show preG e.g e.p e.ar = e.pre from rfl, pre, List.length_cons]
  refine ⟨.ref ax, rfl, nil_read (show spPickL K partsQ [.ref ax] H1 _ E0 from ⟨ax, wd, vr, rfl, sqT_same s1 hx, by omega, by rw [lrr]; exact lw, fun pl H4 s4 np e4 => nil_read ⟨pl, _, rfl, SqL.of e4, ?_⟩⟩)⟩
  refine for_it (walk_enum (K := K) (a := pl) (xs := partsQ wd vr)) (fun i σ' H' => ∃ l ws o3 o4, σ' = [some (.ref ax), some (.ref p), some (.ref l), o3, o4] ∧ Same H4 H' ∧ H l = none ∧ H' l = some (.lst ws) ∧ Plcs K H' ws (e :: (e.kids.take i).flatMap En.pre)) ⟨l, ws0, none, none, rfl, Same.refl _, nl, s4 _ _ el, by rw [List.take_zero]; exact pl0.same s4⟩ (fun i σ' H' _ pv => ?_) (fun i z σ' H' H'' hi pv y => ?_) fun σ' H' pv => ?_
  · obtain ⟨_, _, _, _, _, s', _⟩ := pv
    exact L2.Same.seq s' (SqL.of e4)
  · obtain ⟨l, ws, o3, o4, rfl, s5, nl, el, pls⟩ := pv
    obtain ⟨T, x1, x2, rfl, nT, rfl, e1, e2⟩ := y
    injection e1 with e1
    subst e1
    have sT := same_new nT (o := .tup [V.int (i : Nat), x2])
    refine ⟨T, _, rfl, SqT.of upd_same, rfl, _, _, rfl, _, _, rfl, rfl, ?_⟩
    have s6 := s5.trans sT
    have el6 := sT _ _ el
    have pls6 := pls.same sT
    generalize L2.upd H' T (.tup [V.int (i : Nat), x2]) = H6 at *
    have hik : i < e.kids.length := by rw [← kl, ← lal]; exact hi
    have hk : e.kids[i]? = some e.kids[i] := List.getElem?_eq_getElem hik
    obtain ⟨kp, ⟨e', he', eg'⟩, ka, kb⟩ := kid_at (g := e.g) (p := e.p) (ar := e.ar) hk
    have hdd : (partsQ wd rs)[i]? = some (e.kids[i]).g.d := by
      rw [parts, List.getElem?_map]
      have : (kidsG e.g [] e.ar)[i]?.map (fun k => k.g.d) = (kidsG e.g [] [])[i]?.map (fun k => k.g.d) := by cases e.g <;> (match i with | 0 => rfl | 1 => rfl | i + 2 => rfl)
      rw [this, he', ← eg']; rfl
    have mk : e.kids[i] ∈ e.kids := List.getElem_mem hik
    obtain ⟨kd, kpl, kal⟩ := kid_dep mk
    have kg := kids_good good _ mk
    have kf : ∀ k' ∈ (e.kids[i]).pre, k'.why = none := fun k' hk' => fine k' (by rw [pre]; exact List.mem_cons_of_mem _ (List.mem_flatMap.mpr ⟨_, mk, hk'⟩))
    have ks : (e.kids[i]).g.sz ≤ 1000 := by
      have h1 := pre_len (e.kids[i]).g (e.kids[i]).p (e.kids[i]).ar
      have h2 : (e.kids[i]).pre.length ≤ (e.kids.flatMap En.pre).length := by
        have := flat_take (es := e.kids) (i + 1)
        rw [take_next hk, List.flatMap_append, List.length_append] at this
        simp only [List.flatMap_cons, List.flatMap_nil, List.append_nil] at this
        omega
      have : (e.kids[i]).pre.length = (e.kids[i]).g.sz := h1
      omega
    have fk := flat_take (es := e.kids) (i + 1)
    rw [take_next hk, List.flatMap_append, List.length_append] at fk
    simp only [List.flatMap_cons, List.flatMap_nil, List.append_nil] at fk
    generalize e.kids[i] = k at *
    have lws := pls6.len
    rw [List.length_cons] at lws
    have s14 := (s1.trans s4).trans s6
    refine ⟨_, rfl, x2, rfl, step_read rfl rfl (sqT_same s14 hp) (by omega) fun p' H7 s7 hp' => nil_read (show spPlaces K N [x2, .ref p'] H7 _ E0 from ⟨x2, p', k, rfl, dp_same (s14.trans s7) _ _ (dpAll_get al2 e2 hdd), kg, kf, by omega, ks, by rw [kp]; exact hp', by omega, fun l2 ws2 H8 s8 nl2 el2 pl2 => ?_⟩)⟩
    have el8 := s8 _ _ (s7 _ _ el6)
    have l2w := pl2.len
    have s78 := s7.trans s8
    refine ⟨l, l2, ws, ws2, rfl, rfl, el8, el2, by rw [sizeLine_eq]; omega, fun l3 nl3 => ?_⟩
    have s9 := same_new nl3 (o := .lst (ws ++ ws2))
    refine ⟨l3, ws ++ ws2, _, _, rfl, (s6.trans s78).trans s9, none_before (s14.trans s78) nl3, upd_same, ?_⟩
    rw [take_next hk, List.flatMap_append, ← List.cons_append]
    refine (pls6.same (s78.trans s9)).app ?_
    simp only [List.flatMap_cons, List.flatMap_nil, List.append_nil]
    exact pl2.same s9
  · obtain ⟨l, ws, o3, o4, rfl, s5, nl, el, pls⟩ := pv
    rw [lal, kl, List.take_length, ← pre] at pls
    exact ⟨_, rfl, q _ _ _ ((s1.trans s4).trans s5) nl el pls⟩
theorem ok_places {f fI : Addr} {fd dI : FuncData} (F : Fun K "_law_places" "_law_places" sPlaces f fd) (GI : FnOk P w K mg base CX0 1 fI dI ["value"] (spPickL K partsQ)) (bI : Binds K dI ["value"] []) (kI : PySem.W.keepIn K (.ref fI) = true) (mI : mg "_law_within_of" = some (.ref fI))
    (bR : Binds K fd ["value", "place"] []) (kR : PySem.W.keepIn K (.ref f) = true) (mR : mg "_law_places" = some (.ref f)) (mEnum : mg "enumerate" = none) : ∀ N : Nat, FnOk P w K mg base CX0 (N + 2) f fd ["value", "place"] (spPlaces K N)
  | 0 => places_none F
  | N + 1 => places_step F GI bI kI mI (ok_places F GI bI kI mI bR kR mR mEnum N) bR kR mR mEnum
end
end DQ

set_option Elab.async false
set_option linter.all false
set_option maxRecDepth 100000
set_option maxHeartbeats 1000000
namespace DQ
open PySem PySem.Spec PyProof.Rows L2
/-! ### _law_due -/
abbrev sDue : Stmt := topS 46
abbrev NDu : List Str := ["value", "found", "free", "place", "part", "wrong"]
theorem scDue : FnScope NDu ["value"] (defScope sDue) := ⟨rfl, rfl, rfl, by decide +kernel, rfl, by decide +kernel, by decide +kernel⟩
/-- a quantifier of one of these names -/
def freeQu (fr : List Str) (e : En) : Bool := match e.g with
  | .qu _ x _ => decide (x ∈ fr)
  | _ => false
theorem free_qu (fr : List Str) (e : En) : En.freeWrong fr e = if freeQu fr e = true then some (e.p, ("free" : Str)) else none := by
  obtain ⟨g, p, ar⟩ := e
  cases g <;> simp [En.freeWrong, freeQu]
theorem fw2_filter (fr : List Str) : ∀ S : List En, fw2 S fr = (S.filter (freeQu fr)).head?.map fun e => (e.p, ("free" : Str))
  | [] => rfl
  | e :: S => by
    have ih := fw2_filter fr S
    unfold fw2 at ih ⊢
    rw [List.findSome?_cons, free_qu]
    cases z : freeQu fr e with
    | true => rw [List.filter_cons_of_pos z]; rfl
    | false => rw [List.filter_cons_of_neg (by rw [z]; exact Bool.noConfusion)]; exact ih
theorem place_lay (p : List Nat) : PyData.canLay0 (placeD p) = true ∧ PyData.depth (placeD p) = 1 := by
  have a : PyData.canLayAll0 (p.map fun (k : Nat) => PyData.int (k : Nat)) = true ∧ PyData.depthAll (p.map fun (k : Nat) => PyData.int (k : Nat)) = 0 := by
    induction p with
    | nil => exact ⟨rfl, rfl⟩
    | cons k p ih =>
      refine ⟨?_, ?_⟩
      · show (true && PyData.canLayAll0 (p.map fun (k : Nat) => PyData.int (k : Nat))) = true
        rw [ih.1]; rfl
      · show max 0 (PyData.depthAll (p.map fun (k : Nat) => PyData.int (k : Nat))) = 0
        rw [ih.2]; rfl
  exact ⟨a.1, by show PyData.depthAll _ + 1 = 1; rw [a.2]⟩
theorem places_shaped (ps : List (List Nat)) : SeqAt.shaped (.list (ps.map placeD)) = true := by
  have a : PyData.canLayAll0 (ps.map placeD) = true ∧ PyData.depthAll (ps.map placeD) ≤ 1 := by
    induction ps with
    | nil => exact ⟨rfl, Nat.zero_le _⟩
    | cons p ps ih =>
      have := place_lay p
      refine ⟨?_, ?_⟩
      · show (PyData.canLay0 (placeD p) && PyData.canLayAll0 (ps.map placeD)) = true
        rw [ih.1, this.1]; rfl
      · show max (PyData.depth (placeD p)) (PyData.depthAll (ps.map placeD)) ≤ 1
        have := this.2
        omega
  refine shaped_of a.1 ?_
  show PyData.depthAll (ps.map placeD) + 1 ≤ 64
  omega
theorem kept_dp {K : PySem.W.Frag} {H : Hp} (f : En → Bool) : ∀ {vs : List V} {S : List En}, DpAll K H vs (S.map fun e => placeD e.p) → DpAll K H (((vs.zip S).map fun z => if f z.2 = true then some z.1 else none).filterMap id) ((S.filter f).map fun e => placeD e.p)
  | [], [], _ => .nil
  | [], _ :: _, h => by cases h
  | _ :: _, [], h => by cases h
  | v :: vs, e :: S, h => by
    cases h with
    | cons a r =>
      have ih := kept_dp f (S := S) r
      rw [List.zip_cons_cons, List.map_cons]
      cases z : f e with
      | true =>
        rw [List.filter_cons_of_pos z, if_pos rfl, List.filterMap_cons_some (f := id) (a := some v) (b := v) rfl, List.map_cons]
        exact .cons a ih
      | false =>
        rw [List.filter_cons_of_neg (by rw [z]; exact Bool.noConfusion), if_neg Bool.noConfusion, List.filterMap_cons_none (f := id) (a := (none : Option V)) rfl]
        exact ih
section
variable {P : Program} {w : World} {K : PySem.W.Frag} {mg : Str → Option Value} {base : Heap}
def spDue (K : PySem.W.Frag) : Sp := fun vs H Q _ => ∃ (v : V) (g : Gn), vs = [v] ∧ Dp K H v g.d ∧ g.good ∧ g.dep < 30 ∧ g.sz ≤ 1000 ∧ ∀ x H', Same H H' → Dp K H' x (wrongD (dueG g)) → Q x H'
theorem ok_due {f fF fR fP : Addr} {fd dF dR dP : FuncData} (F : Fun K "_law_due" "_law_due" sDue f fd) (GF : FnOk P w K mg base CX0 33 fF dF ["value", "place", "around"] (spLFirst K 30)) (bF : Binds K dF ["value", "place", "around"] []) (kF : PySem.W.keepIn K (.ref fF) = true) (mF : mg "_law_first_wrong" = some (.ref fF))
    (GR : FnOk P w K mg base CX0 35 fR dR ["question"] (spFree K 30)) (bR : Binds K dR ["question"] []) (kR : PySem.W.keepIn K (.ref fR) = true) (mR : mg "_law_free" = some (.ref fR))
    (GP : FnOk P w K mg base CX0 32 fP dP ["value", "place"] (spPlaces K 30)) (bP : Binds K dP ["value", "place"] []) (kP : PySem.W.keepIn K (.ref fP) = true) (mP : mg "_law_places" = some (.ref fP)) : FnOk P w K mg base CX0 36 f fd ["value"] (spDue K) := by
  refine F.ok scDue (fun vs H Q E h => ?_) (fun cdv A outer s H vs Q E hr h => ?_)
  · obtain ⟨_, _, rfl, _⟩ := h
    rfl
  obtain ⟨v, g, rfl, hd, good, dep, size, q⟩ := h
  have nd := scDue.nd
  refine ⟨_, (pss_cons (ps_set (i := 1) nd rfl (.inl rfl) (pe_call GF (hr.mono (by decide)) rfl mF kF bF .nil pass0 (pa_cons (pv 0) (pa_cons (pe_tup pa_nil) (pa_cons (pe_lst pa_nil) pa_nil)))))
     (pss_cons (ps_if (pt_cmpR op_notN (pv 1) pe_non (nomark _)) (pss_one (ps_ret (pv 1))) pss_nil)
     (pss_cons (ps_set (i := 2) nd rfl (.inr rfl) (pe_call GR (hr.mono (by decide)) rfl mR kR bR .nil pass0 (pa_cons (pv 0) pa_nil)))
     (pss_cons (ps_setLc (i := 5) (own := [("place", 3), ("part", 4)]) (g := gTup K 2 (gCons (gName 3) (gCons (gName 4) gNil))) rfl nd rfl rfl (sw_true rfl rfl rfl (by decide +kernel)) (pi_list (pe_call GP (hr.mono (by decide)) rfl mP kP bP .nil pass0 (pa_cons (pv 0) (pa_cons (pe_tup pa_nil) pa_nil)))) (blkOk_by (own := [("place", 3), ("part", 4)]) (N := NDu) (sc := defScope sDue) (by decide +kernel)) (fun _ _ _ _ _ => pg_tup rfl (pgs_cons (pg_name (i := 3) nd rfl (Or.inl rfl)) (pgs_cons (pg_name (i := 4) nd rfl (Or.inl rfl)) pgs_nil))) (fun _ _ _ _ _ => pts_one (PW.pt (pw_and (pt_cmpR (r := rIn K false) op_in_seq (pe_ix (r := rIxT K) ix_tup (pv 4) pe_int (fun _ _ => rfl)) (pe_lst (pa_cons pe_str (pa_cons pe_str pa_nil))) (by with_unfolding_all rfl)) (pw_and1 (pt_cmpR (r := rIn K false) op_in_seq (pe_ix (r := rIxT K) ix_tup (pv 4) pe_int (fun _ _ => rfl)) (pv 2) (by rfl)))))) (fun _ _ _ _ _ => (pv 3)))
     (pss_one (ps_ret (pe_ifExp (pt_cmpR (r := rNeD K) (op_neD hr.units) (pv 5) (pe_lst pa_nil) (nomark _)) (pe_tup (pa_cons (pe_ix (r := rIxL K) ix_list (pv 5) pe_int (fun _ _ => rfl)) (pa_cons pe_str pa_nil))) pe_non))))))), ?_⟩
  have shp : SeqAt.shaped (.list []) = true := by decide +kernel
  refine seq_te (fun y H' => Same H H' ∧ Dp K H' y (wrongD (fw1 g [] []))) (fun R hR => ?_) fun y H1 ⟨s1, dy⟩ => ?_
  · refine ⟨v, rfl, Nat.zero_le _, fun p np => ⟨Nat.zero_le _, fun r nr => ?_⟩⟩
    have sp := same_new np (o := .tup [])
    have ep : L2.upd H p (.tup []) p = some (.tup []) := upd_same
    generalize L2.upd H p (.tup []) = H0 at *
    have sr := same_new nr (o := .lst [])
    exact nil_read (show spLFirst K 30 [v, .ref p, .ref r] _ R E0 from ⟨v, p, r, ⟨g, [], []⟩, rfl, dp_same (sp.trans sr) _ _ hd, good, dep, SqT.of (sr _ _ ep), upd_same, by show 0 + g.dep ≤ 1000; omega, by show 0 + g.dep ≤ 1000; omega, fun x H' s' dx => hR _ _ ⟨(sp.trans sr).trans s', dx⟩⟩)
  show tSeq (tIfS _ _ _) _ _ [some v, some y, none, none, none, none] H1
  refine seq_any (fun σ' H' => σ' = [some v, some .non, none, none, none, none] ∧ H' = H1 ∧ fw1 g [] [] = none) (fun D' rt' nx' => ?_) fun σ' H2 ⟨eσ, eH, ef⟩ => ?_
  · cases hf : fw1 g [] [] with
    | none =>
      rw [hf] at dy
      cases dy
      exact ⟨_, rfl, rfl, _, rfl, iteF' rfl (nx' _ _ ⟨rfl, rfl, hf⟩)⟩
    | some pr =>
      obtain ⟨pp, yy⟩ := pr
      rw [hf] at dy
      have ed : dueG g = some (pp, yy) := by unfold dueG; rw [hf]
      rw [ed] at q
      cases dy with
      | @tup ay vy _ hy ry =>
      refine ⟨_, rfl, rfl, _, rfl, iteT' rfl ⟨_, rfl, ?_⟩⟩
      rw [rt']
      exact q _ _ s1 (.tup hy ry)
  subst eσ
  subst eH
  have fine : ∀ e ∈ preG g [] [], e.why = none := scan_none.mp ef
  have nb := no_bad good.1 (p := []) (ar := []) fine
  have eqd : g.d = g.toQ.d := by rw [← ofQ_d, nb]
  have due : dueG g = fw2 (preG g [] []) (freeQ g.toQ) := by
    unfold dueG
    rw [ef]
    exact fw2_congr fun x => mem_free.symm
  refine seq_te (fun y H' => ∃ p, y = .ref p ∧ Same H2 H' ∧ H' p = some (.lst ((freeQ g.toQ).map V.str))) (fun R hR => ⟨v, rfl, nil_read (show spFree K 30 [v] H2 R E0 from ⟨v, g.toQ, rfl, by rw [← eqd]; exact dp_same s1 _ _ hd, by rw [← ofQ_dep, nb]; exact dep, by rw [← ofQ_sz, nb]; exact size, fun p H' s' _ e' => hR _ _ ⟨p, rfl, s', e'⟩⟩)⟩) fun y H3 ⟨fa, ey, s3, hfa⟩ => ?_
  subst ey
  show tSeq (tAsg (tLc _ _ _ _ _) _) _ _ [some v, some .non, some (.ref fa), none, none, none] H3
  have s13 := s1.trans s3
  refine seq_te (fun y H' => ∃ D xs, y = .ref D ∧ Same H3 H' ∧ H' D = some (.lst xs) ∧ DpAll K H' xs (((preG g [] []).filter (freeQu (freeQ g.toQ))).map fun e => placeD e.p)) (fun R hR => ?_) fun y H4 ⟨D, xs, ey, s4, eD, al⟩ => ?_
  · refine ⟨v, rfl, Nat.zero_le _, fun p np => ?_⟩
    have sp := same_new np (o := .tup [])
    refine nil_read (show spPlaces K 30 [v, .ref p] _ _ E0 from ⟨v, p, ⟨g, [], []⟩, rfl, dp_same (s13.trans sp) _ _ hd, good, fine, dep, size, SqT.of upd_same, by show 0 + g.dep ≤ 1000; omega, fun l ws H4 s4 nl el pls => ⟨l, rfl, ⟨_, SqL.of el⟩, fun D nD => ?_⟩⟩)
    have s34 := sp.trans s4
    have pls : Plcs K H4 ws (preG g [] []) := pls
    have lws := pls.len
    obtain ⟨pl, vals, d1, d2, at_⟩ := plcs_split pls
    have l1 := dpAll_len d1
    rw [List.length_map] at l1
    have few : (preG g [] []).length ≤ 1000 := by rw [pre_len]; exact size
    refine lc_opts (walk_list (K := K) (a := l) (xs := ws)) ((pl.zip (preG g [] [])).map fun z => if freeQu (freeQ g.toQ) z.2 = true then some z.1 else none) (by rw [List.length_map, List.length_zip]; omega) (by rw [sizeLine_eq]; omega) nD (fun H' s' => SqL.of (s' _ _ el)) (fun _ _ _ _ y => by rw [y.1]; exact fun _ _ h => h) (fun i x H9 H' o hi ho s' y R' N hR' hN => ?_) fun H5 s5 e5 => ?_
    · obtain ⟨rfl, hx⟩ := y
      obtain ⟨z, hz, ez⟩ : ∃ z, (pl.zip (preG g [] []))[i]? = some z ∧ (if freeQu (freeQ g.toQ) z.2 = true then some z.1 else none) = o := by
        rw [List.getElem?_map] at ho
        obtain ⟨z, hz, e⟩ := Option.map_eq_some_iff.mp ho
        exact ⟨z, hz, e⟩
      obtain ⟨z1, e⟩ := z
      obtain ⟨h1, h2⟩ := List.getElem?_zip_eq_some.mp hz
      obtain ⟨a, x1, y1, rfl, g1, g2, ha⟩ := at_ i x hx
      rw [h1] at g1
      have g1 : x1 = z1 := by injection g1 with g1; exact g1.symm
      subst g1
      have ez : (if freeQu (freeQ g.toQ) e = true then some x1 else none) = o := ez
      have dv := dp_same s' _ _ (dpAll_get d2 g2 (show ((preG g [] []).map fun e => e.g.d)[i]? = some e.g.d by rw [List.getElem?_map, h2]; rfl))
      have cl : e.g.ok ∧ e.why = none := ⟨(pre_good g [] [] good e (List.mem_of_getElem? h2)).1, fine e (List.mem_of_getElem? h2)⟩
      obtain ⟨wd, rs, ed, lw, _, qyes, qno, _⟩ := node_of cl.1 (ar := e.ar) cl.2
      rw [ed] at dv
      cases dv with
      | @tup ax vx _ hx2 rx =>
      cases rx with
      | @cons v0 vr _ _ g0 rr =>
      cases g0
      refine ⟨a, _, rfl, sqT_same s' ha, rfl, _, _, rfl, _, _, rfl, rfl, rfl, ?_⟩
      refine headinL_read quansL rfl hx2 (by decide) fun H6 s6 => ?_
      cases c : decide (wd ∈ quansL) with
      | false =>
        refine iteF' rfl (iteF' rfl (hN ?_ _ s6))
        have : freeQu (freeQ g.toQ) e = false := by
          unfold freeQu
          split
          · rename_i b z g' hg
            exact absurd hg (qno c b z g')
          · rfl
        rw [← ez, this]; rfl
      | true =>
        obtain ⟨b, z, g', hg, _, er⟩ := qyes c
        subst er
        cases rr with
        | @cons v1 _ _ _ k1 _ =>
        cases k1
        have hfa6 := s6 _ _ (s' _ _ (s34 _ _ hfa))
        refine iteT' rfl ⟨_, rfl, ax, _, 1, _, rfl, rfl, sqT_same s6 hx2, atI_nat (j := 1) rfl, _, rfl, fa, _, rfl, .inl (SqL.of hfa6), rfl, flat_words _, _, rfl, ?_⟩
        show if inV (V.str z) ((freeQ g.toQ).map V.str) = true then _ else _
        rw [inV_words]
        have ef : freeQu (freeQ g.toQ) e = decide (z ∈ freeQ g.toQ) := by unfold freeQu; rw [hg]
        cases c2 : decide (z ∈ freeQ g.toQ) with
        | true => exact iteT' rfl ⟨_, rfl, hR' _ _ (by rw [← ez, ef, c2]; rfl) s6⟩
        | false => exact iteF' rfl (hN (by rw [← ez, ef, c2]; rfl) _ s6)
    · refine hR _ _ ⟨D, _, rfl, s34.trans s5, e5, dpAll_same s5 _ _ (kept_dp (freeQu (freeQ g.toQ)) d1)⟩
  subst ey
  show tRet _ _ [some v, some .non, some (.ref fa), none, none, some (.ref D)] H4
  have s14 := s13.trans s4
  rw [due, fw2_filter] at q
  generalize (preG g [] []).filter (freeQu (freeQ g.toQ)) = M at *
  refine ⟨_, rfl, Nat.zero_le _, fun p np => ?_⟩
  have sp := same_new np (o := .lst [])
  refine ⟨.list (M.map fun e => placeD e.p), .list [], .lst (SqL.of (sp _ _ eD)) (dpAll_same sp _ _ al), .lst (SqL.of upd_same) .nil, ?_, shp, _, rfl, ?_⟩
  · have := places_shaped (M.map fun e => e.p)
    rw [List.map_map] at this
    exact this
  rw [eqv_nil]
  cases M with
  | nil => exact iteF' (by simp) (q _ _ (s14.trans sp) .non)
  | cons e M =>
    refine iteT' (by simp) ?_
    cases al with
    | @cons x xs _ _ d0 _ =>
    refine ⟨_, rfl, D, _, 0, x, rfl, rfl, SqL.of (sp _ _ eD), atI_nat (j := 0) rfl, by show 2 ≤ sizeLine; decide, fun t nt => ?_⟩
    have st := same_new nt (o := .tup [x, .str "free"])
    exact q _ _ ((s14.trans sp).trans st) (.tup (SqT.of upd_same) (.cons (dp_same (sp.trans st) _ _ d0) (.cons (.str "free") .nil)))
end
end DQ

set_option Elab.async false
set_option linter.all false
set_option maxRecDepth 100000
set_option maxHeartbeats 1000000
namespace DQ
open PySem PySem.Spec PyProof.Rows
open L2 (Hp V VK XK R2 OpR SqL SqT Inv RelV Vals HOk Cx EP CallR)
/-! ### repr of data, empty dicts among it -/
mutual
theorem dp_shown {X : Cx} {pins : List (Addr × Obj)} {σ : L2.St} {H : Hp} {s : Shared} (I : Inv X pins σ H s) : ∀ (d : PyData) (v : V) (u : Value), Dp X.K H v d → RelV v u → d.showable = true → d.shown.length ≤ sizeLine →
    ∃ bs, ReadAtMost s.heap d.depth bs ∧ ReprK X.prog X.w bs s.heap d.depth u d.shown
  | .none, v, u, h, r, sh, sz => (Dp.reads I .none v u h r).elim fun as rd => ReprK.of_reads rd sh (fun z => by simp [PyData.hasDict] at z) sz
  | .bool b, v, u, h, r, sh, sz => (Dp.reads I (.bool b) v u h r).elim fun as rd => ReprK.of_reads rd sh (fun z => by simp [PyData.hasDict] at z) sz
  | .int i, v, u, h, r, sh, sz => (Dp.reads I (.int i) v u h r).elim fun as rd => ReprK.of_reads rd sh (fun z => by simp [PyData.hasDict] at z) sz
  | .str x, v, u, h, r, sh, sz => (Dp.reads I (.str x) v u h r).elim fun as rd => ReprK.of_reads rd sh (fun z => by simp [PyData.hasDict] at z) sz
  | .list ds, v, u, h, r, sh, sz => by
    obtain ⟨as, rd⟩ := Dp.reads I (.list ds) v u h r
    cases h with
    | lst hs ha =>
      obtain rfl : u = Value.ref _ := r
      obtain ⟨its, rv, ⟨o, n, ho, hc, _, hd⟩, _⟩ := I.list hs
      have sz' : (listText (PyData.shownAll ds)).length ≤ sizeLine := by simpa only [PyData.shown] using sz
      obtain ⟨bs, hb, hk⟩ := dpAll_shown I ds _ its ha rv (by simpa only [PyData.showable] using sh) fun t ht => Nat.le_trans (listText_mem_le ht) sz'
      have hna := not_mem_of_deeper rd (by simp only [PyData.depth]; omega) hb
      refine ⟨_ :: bs, ReadAtMost.cons rd (by simp only [PyData.depth]; omega) hb, ?_⟩
      simp only [PyData.depth, PyData.shown]
      cases its with
      | nil =>
        cases rv
        cases ha
        simp only [PyData.shownAll, listText_nil]
        exact ReprK.listEmpty ho hc hd
      | cons y ys => exact ReprK.list ho hc hd hna (by simpa using hk.length_eq) fun i z e => hk.item i z (by simpa using e)
  | .tuple ds, v, u, h, r, sh, sz => by
    obtain ⟨as, rd⟩ := Dp.reads I (.tuple ds) v u h r
    cases h with
    | tup hs ha =>
      obtain rfl : u = Value.ref _ := r
      obtain ⟨its, rv, ⟨o, ho, hc, n, hd⟩, _⟩ := I.tuple hs
      have sz' : (tupleText (PyData.shownAll ds)).length ≤ sizeLine := by simpa only [PyData.shown] using sz
      obtain ⟨bs, hb, hk⟩ := dpAll_shown I ds _ its ha rv (by simpa only [PyData.showable] using sh) fun t ht => Nat.le_trans (tupleText_mem_le ht) sz'
      have hna := not_mem_of_deeper rd (by simp only [PyData.depth]; omega) hb
      refine ⟨_ :: bs, ReadAtMost.cons rd (by simp only [PyData.depth]; omega) hb, ?_⟩
      simp only [PyData.depth, PyData.shown]
      exact ReprK.tuple ho hc hd hna (by simpa using hk)
  | .dict kvs, v, u, h, r, sh, sz => by
    obtain ⟨as, rd⟩ := Dp.reads I (.dict kvs) v u h r
    cases h with
    | dct hs =>
      obtain rfl : u = Value.ref _ := r
      obtain ⟨_, hsys, vs, kv, o, es, ep, ho, ex, hd, _, ps, _⟩ := L2.dk_of I.hok hs
      have e0 : vs = [] := by
        cases kv
        rfl
      subst e0
      have e1 : es.toList = [] := List.length_eq_zero_iff.mp (by simpa using PySem.Pairs.length ps)
      refine ⟨[_], ReadAtMost.cons (bs := []) rd (n := 0) (Nat.zero_le _) (fun b hb => nomatch hb), ?_⟩
      simp only [PyData.depth, PyData.depthKv, PyData.shown, PyData.shownKv]
      exact ReprK.dict ho ex.1 hd hsys (by simp) (by rw [e1]; exact .nil)
theorem dpAll_shown {X : Cx} {pins : List (Addr × Obj)} {σ : L2.St} {H : Hp} {s : Shared} (I : Inv X pins σ H s) : ∀ (ds : List PyData) (vs : List V) (us : List Value), DpAll X.K H vs ds → Vals vs us → PyData.showableAll ds = true → (∀ t ∈ PyData.shownAll ds, t.length ≤ sizeLine) →
    ∃ bs, ReadAtMost s.heap (PyData.depthAll ds) bs ∧ ReprAllK X.prog X.w bs s.heap (PyData.depthAll ds) us (PyData.shownAll ds)
  | [], _, _, h, r, _, _ => by
    cases h
    cases r
    exact ⟨[], (fun _ h => nomatch h), by simp only [PyData.shownAll]; exact .nil⟩
  | d :: ds, _, _, h, r, sh, sz => by
    cases h with
    | cons h1 h2 =>
      cases r with
      | cons r1 r2 =>
        have sh' : d.showable = true ∧ PyData.showableAll ds = true := by simpa [PyData.showableAll] using sh
        obtain ⟨b1, hb1, k1⟩ := dp_shown I d _ _ h1 r1 sh'.1 (sz _ (by simp only [PyData.shownAll]; exact List.mem_cons_self ..))
        obtain ⟨b2, hb2, k2⟩ := dpAll_shown I ds _ _ h2 r2 sh'.2 fun t ht => sz t (by simp only [PyData.shownAll]; exact List.mem_cons_of_mem _ ht)
        have m1 : PyData.depth d ≤ PyData.depthAll (d :: ds) := by simp only [PyData.depthAll]; exact Nat.le_max_left _ _
        have m2 : PyData.depthAll ds ≤ PyData.depthAll (d :: ds) := by simp only [PyData.depthAll]; exact Nat.le_max_right _ _
        refine ⟨b1 ++ b2, (hb1.mono m1).append (hb2.mono m2), ?_⟩
        simp only [PyData.shownAll]
        exact .cons ((k1.more fun b hb => List.mem_append_left _ hb).level_le m1) (k2.more_le (fun b hb => List.mem_append_right _ hb) m2)
end
/-- what repr wants of data, dicts among it -/
structure ShowsZ (d : PyData) : Prop where
  sh : d.showable = true
  dep : d.depth ≤ 64
  sz : d.shown.length ≤ sizeLine
/-- repr of a tuple of data; the guards around are known to be none -/
def rReprT (K : PySem.W.Frag) : List V → Hp → VK → Prop := fun xs H Q => ∃ (a : Addr) (ds : List PyData), xs = [.ref a] ∧ Dp K H (.ref a) (.tuple ds) ∧ ShowsZ (.tuple ds) ∧ Q (.str (PyData.tuple ds).shown) H
theorem call_reprT {X : Cx} (hu : X.A.units + 65 < cLine) (hg : X.A.guards = some []) : CallR X (.builtin "repr") (rReprT X.K) := by
  intro pins s σ H xs us Q I r h
  obtain ⟨a, ds, rfl, hd, ⟨sh, dep, sz⟩, q⟩ := h
  obtain ⟨u, rfl, ru⟩ := L2.vals1 r
  obtain ⟨as, rd⟩ := Dp.reads I (.tuple ds) _ _ hd ru
  cases hd with
  | tup hs ha =>
    obtain rfl : u = Value.ref a := ru
    obtain ⟨its, rv, ⟨o, ho, hc, n, hd⟩, _⟩ := I.tuple hs
    have sz' : (tupleText (PyData.shownAll ds)).length ≤ sizeLine := by simpa only [PyData.shown] using sz
    obtain ⟨bs, hb, hk⟩ := dpAll_shown I ds _ its ha rv (by simpa only [PyData.showable] using sh) fun t ht => Nat.le_trans (tupleText_mem_le ht) sz'
    have hna := not_mem_of_deeper rd (by simp only [PyData.depth]; omega) hb
    have dp : PyData.depthAll ds + 1 ≤ 64 := by simpa only [PyData.depth] using dep
    refine call_repr_slot (by omega) ⟨o, ho, hc⟩ F.slot_tuple_repr (call_tuple_reprK ho hc hd hna (by simpa using hk) hg (fun b _ => Clear.nil b) (by show X.A.units + 1 + _ < _; omega) (fun _ _ e => e) (fun h' u tk k => ⟨_, _, rfl, ?_⟩) sz')
    simp only [PyData.shown] at q
    exact ⟨.str _, H, I.kept fun b o e => k b o e, ⟨u, rfl⟩, q⟩
end DQ

set_option Elab.async false
set_option linter.all false
set_option maxRecDepth 100000
set_option maxHeartbeats 2000000
namespace DQ
open PySem PySem.Spec PyProof.Rows L2
/-- repr of data that stands as an object; the guards around are known to be none -/
def rReprD (K : PySem.W.Frag) : List V → Hp → VK → Prop := fun xs H Q => ∃ (a : Addr) (d : PyData), xs = [.ref a] ∧ Dp K H (.ref a) d ∧ d.showable = true ∧ d.hasDict = false ∧ d.depth ≤ 64 ∧ d.shown.length ≤ sizeLine ∧ Q (.str d.shown) H
theorem call_reprD {X : Cx} (hu : X.A.units + 65 < cLine) (hg : X.A.guards = some []) : CallR X (.builtin "repr") (rReprD X.K) := by
  intro pins s σ H xs us Q I r h
  obtain ⟨a, d, rfl, hd, sh, nd, dep, sz, q⟩ := h
  obtain ⟨u, rfl, ru⟩ := vals1 r
  obtain rfl : u = Value.ref a := ru
  obtain ⟨as, rd⟩ := Dp.reads I d _ _ hd rfl
  refine repr_of_reads' rd sh (fun h => by rw [nd] at h; exact nomatch h) hg (by omega) (fun _ _ e => e) (fun h' u tk k => ?_) sz
  exact ⟨.str d.shown, H, I.kept fun b o e => k b o e, ⟨u, rfl⟩, q⟩
end DQ
namespace DQ
open PySem PySem.Spec PyProof.Rows L2
/-! ### defs that are called where no guard is around (repr wants that) -/
structure FnG (P : Program) (w : World) (K : PySem.W.Frag) (mg : Str → Option Value) (base : Heap) (CX : CXT) (k : Nat) (f : Addr) (fd : FuncData) (ps : List Str) (sp : Sp) : Prop where
  len : ∀ vs H Q E, sp vs H Q E → vs.length = ps.length
  run : ∀ (A : Around) (outer : List Env) (s : Shared) (H : Hp) (args : Args) (us : List Value) (vs : List V) (Q : VK) (E : XK), Room k A → A.guards = some [] → Env0 P w K mg base A outer s H → BindsTo s fd args (ps.zip us) → Vals vs us → sp vs H Q E →
    codeAny (model P w) A (.call (.ref f) args) (CR CX outer P w H s Q E) s
theorem FnG.of {P : Program} {w : World} {K : PySem.W.Frag} {mg : Str → Option Value} {base : Heap} {CX : CXT} {k : Nat} {f : Addr} {fd : FuncData} {ps : List Str} {sp : Sp} (F : FnOk P w K mg base CX k f fd ps sp) : FnG P w K mg base CX k f fd ps sp :=
  ⟨F.len, fun A outer s H args us vs Q E hr _ => F.run A outer s H args us vs Q E hr⟩
theorem fnG_of {CX : CXT} {P : Program} {w : World} {K : PySem.W.Frag} {mg : Str → Option Value} {base : Heap} {k : Nat} {f : Addr} {name qual : Str} {params : Arguments} {body : List Stmt} {scope : Scope} {dV kV doc pm cdv ct oc : Value} {an od : Option Addr}
    {osl : Array (Option Value)} {N ps : List Str} {sp : Sp} (lk : K.lookup f = some ⟨oc, od, .func (PySem.W.fnOf name qual params body scope dV kV doc pm an cdv ct), osl⟩) (hcd : PySem.W.codeIn K cdv qual = true) (S : FnScope N ps scope)
    (len : ∀ vs H Q E, sp vs H Q E → vs.length = ps.length)
    (hbody : ∀ (A : Around) (outer : List Env) (s : Shared) (H : Hp) (vs : List V) (Q : VK) (E : XK), Room k (A.deeper (envOfC qual scope s.heap.objs.size f cdv)) → A.guards = some [] → sp vs H Q E →
      ∃ t, PSs (cxOf CX P w K mg base N qual scope f cdv A outer s H E) body t ∧ t { nx := fun _ H' => Q .non H', rt := Q } (L2.start N vs) H) :
    FnG P w K mg base CX (k + 1) f (PySem.W.fnOf name qual params body scope dV kV doc pm an cdv ct) ps sp := by
  refine ⟨len, fun A outer s H args us vs Q E hr hg e0 hb r hsp => ?_⟩
  have hl := len _ _ _ _ hsp
  have KX : K.In s.heap := e0.mod.kin.keeps fun b o e => (e0.bs b o e).1
  have lim : s.heap.NoLimit := e0.mod.nolimit.keeps fun b o e => (e0.bs b o e).1
  have hkind : ∀ y ∈ ps.zip us, scope.names.lookup y.1 = some .local ∨ (scope.names.lookup y.1 = some .cell ∧ ((cellsFrom (s.heap.objs.size + 1) scope.names []).lookup y.1).isSome = true) := fun ⟨n, v⟩ hy => by
    rcases S.par n (List.of_mem_zip hy).1 with q | q
    · exact .inl q
    · exact .inr ⟨q, PySem.W.cellsFrom_some _ _ _ (.inl q)⟩
  refine codeAny_call_function hr.depth (KX _ _ lk) rfl S.co S.gen rfl (PySem.W.codeRec_of KX hcd) (hb _ _ _ _ ?_)
  refine wpAny_newFunctionEnv_cells S.kind hkind fun env he s1 x => ?_
  subst he
  refine ⟨lim.keeps x.toInCall.keep, codeAny_func ?_⟩
  obtain ⟨t, ht, hq⟩ := hbody A outer s H vs Q E (hr.deeper _) hg hsp
  have I : Inv (cxOf CX P w K mg base N qual scope f cdv A outer s H E) [] (L2.start N vs) H s1 := inv_start S hr.hd e0 hl r x
  refine wpAny_mono (ht.run [] s1 (L2.start N vs) H _ I hq) (fun fl s' hs => ?_) fun e s' hs => hs
  have fin : ∀ {σ' : L2.St} {H' : Hp} {v : V} {u : Value}, Inv (cxOf CX P w K mg base N qual scope f cdv A outer s H E) [] σ' H' s' → RelV v u → Q v H' → CE outer P w H s Q u s' :=
    fun {σ' H' v u} J rv q => ⟨v, H', J.os, J.bare, J.base, J.hok, rv, q⟩
  cases fl with
  | ret u =>
    obtain ⟨v, σ', H', J, rv, q⟩ := hs
    exact fin J rv q
  | next =>
    obtain ⟨σ', H', J, q⟩ := hs
    exact fin (v := V.non) (u := Value.none) J rfl q
  | brk =>
    obtain ⟨_, _, _, q⟩ := hs
    exact False.elim q
  | cont =>
    obtain ⟨_, _, _, q⟩ := hs
    exact False.elim q
section
variable {P : Program} {w : World} {K : PySem.W.Frag} {mg : Str → Option Value} {base : Heap}
theorem fun_okG {CX : CXT} {x qual : Str} {st : Stmt} {f : Addr} {fd : FuncData} {N ps : List Str} {k : Nat} {sp : Sp} (F : Fun K x qual st f fd) (S : FnScope N ps (defScope st)) (len : ∀ vs H Q E, sp vs H Q E → vs.length = ps.length)
    (hbody : ∀ (cdv : Value) (A : Around) (outer : List Env) (s : Shared) (H : Hp) (vs : List V) (Q : VK) (E : XK), Room k (A.deeper (envOfC qual (defScope st) s.heap.objs.size f cdv)) → A.guards = some [] → sp vs H Q E →
      ∃ t, PSs (cxOf CX P w K mg base N qual (defScope st) f cdv A outer s H E) (defBody st) t ∧ t { nx := fun _ H' => Q .non H', rt := Q } (L2.start N vs) H) : FnG P w K mg base CX (k + 1) f fd ps sp := by
  obtain ⟨oc, od, kV, doc, pm, an, cdv, ct, osl, rfl, lk, hcd⟩ := F.ex
  exact fnG_of lk hcd S len fun A outer s H vs Q E hr hg hsp => hbody cdv A outer s H vs Q E hr hg hsp
end
section
variable {X : Cx} {CX : CXT} {k : Nat} {f : Addr} {fd : FuncData} {ps : List Str} {sp : Sp} {dvs : List V} {ds : List Value} {E : XK} {x : Str} {p pos : Pos} {e : Expr} {es : List Expr} {t : TA}
theorem run_fnG {pins : List (Addr × Obj)} {σ : L2.St} {H : Hp} {s : Shared} {Q : VK} {us : List Value} {vs : List V} (F : FnG X.prog X.w X.K X.mg X.base CX k f fd ps sp) (hr : Room k X.A) (hG : X.A.guards = some []) (hb : Binds X.K fd ps ds) (hd : Vals dvs ds) (hx : Passes CX X E)
    (I : Inv X pins σ H s) (r : Vals vs us) (h : sp (vs ++ dvs) H Q E) : wpAny (model X.prog X.w) X.A (call (.ref f) us) (EP X pins σ Q) X.xe s := by
  have r2 : Vals (vs ++ dvs) (us ++ ds) := r.append hd
  have hl : (us ++ ds).length = ps.length := by rw [← r2.length]; exact F.len _ _ _ _ h
  refine wpAny_call (codeAny_mono (F.run X.A X.stack s H ⟨us, []⟩ (us ++ ds) (vs ++ dvs) Q E hr hG I.env0 (hb s us I.kIn hl) r2 h) fun r s' hq => ?_)
  cases r with
  | error e => exact hx pins σ H s e s' I hq
  | ok fl =>
    cases fl with
    | ret u => exact I.after hq
    | next => exact False.elim hq
    | brk => exact False.elim hq
    | cont => exact False.elim hq
theorem pe_callGd (F : FnG X.prog X.w X.K X.mg X.base CX k f fd ps sp) (hr : Room k X.A) (hG : X.A.guards = some []) (hg : Gl X x) (hm : X.mg x = some (.ref f)) (hk : PySem.W.keepIn X.K (.ref f) = true) (hb : Binds X.K fd ps ds) (hd : Vals dvs ds) (hx : Passes CX X E)
    (ha : PA X (e :: es) t) (hdb : (x == ("__debug__" : Str)) = false := by decide) (he : starEach (e :: es) X.env = (false, eval e X.env) :: starEach es X.env := by rfl) (hpl : (backTo pos (starEach es X.env)).any (·.1) = false := by rfl) :
    PE X (.Call (.Name x p) (e :: es) [] pos) (tCall sp dvs E t) := by
  refine ⟨fun pins s σ H Q I h => ?_⟩
  refine wpAny_Call_Name_kw (ld_glob I hg hm ?_ hdb)
  refine PySem.W.callWith_K (h₀ := X.base) I.ok.mod.kin hk (thn (ha.run pos pins s σ H _ I h) fun us s1 ⟨vs, H1, I1, r, q⟩ => ⟨I1.kIn, ?_⟩) he hpl
  exact run_fnG F hr hG hb hd hx I1 r q
end
end DQ
namespace DQ
open PySem PySem.Spec PyProof.Rows L2
/-- what repr wants of data -/
structure Shows (d : PyData) : Prop where
  sh : d.showable = true
  nod : d.hasDict = false
  dep : d.depth ≤ 64
  sz : d.shown.length ≤ sizeLine
/-- repr of any data; the guards around are known to be none -/
def rReprV (K : PySem.W.Frag) : List V → Hp → VK → Prop := fun xs H Q => ∃ (v : V) (d : PyData), xs = [v] ∧ Dp K H v d ∧ Shows d ∧ Q (.str d.shown) H
theorem call_reprV {X : Cx} (hu : X.A.units + 65 < cLine) (hg : X.A.guards = some []) : CallR X (.builtin "repr") (rReprV X.K) := by
  intro pins s σ H xs us Q I r h
  obtain ⟨v, d, rfl, hd, ⟨sh, nod, dep, sz⟩, q⟩ := h
  cases hd with
  | non =>
    obtain ⟨u, rfl, ru⟩ := vals1 r
    obtain rfl : u = Value.none := ru
    exact PySem.P.repr_of_none ⟨.str _, H, I.tok _, ⟨_, rfl⟩, q⟩
  | bl b =>
    obtain ⟨u, rfl, ru⟩ := vals1 r
    obtain rfl : u = Value.bool b := ru
    exact PySem.P.repr_of_bool ⟨.str _, H, I.tok _, ⟨_, rfl⟩, q⟩
  | int i =>
    obtain ⟨u, rfl, t, rfl⟩ := vals1 r
    exact PySem.P.repr_of_int (by simpa [PyData.showable] using sh) ⟨.str _, H, I.tok _, ⟨_, rfl⟩, q⟩
  | str x =>
    obtain ⟨u, rfl, t, rfl⟩ := vals1 r
    exact PySem.P.repr_of_str ⟨.str _, H, I.tok _, ⟨_, rfl⟩, q⟩ sz
  | lst hs ha => exact call_reprD hu hg pins s σ H _ us Q I r ⟨_, _, rfl, .lst hs ha, sh, nod, dep, sz, q⟩
  | tup hs ha => exact call_reprD hu hg pins s σ H _ us Q I r ⟨_, _, rfl, .tup hs ha, sh, nod, dep, sz, q⟩
  | dct h => simp [PyData.hasDict] at nod
end DQ

set_option Elab.async false
set_option linter.all false
set_option maxRecDepth 100000
set_option maxHeartbeats 1000000
namespace DQ
open PySem PySem.Spec PyProof.Rows L2
/-! ### repr of any data, empty dicts among it -/
def rReprZ (K : PySem.W.Frag) : List V → Hp → VK → Prop := fun xs H Q => ∃ (v : V) (d : PyData), xs = [v] ∧ Dp K H v d ∧ ShowsZ d ∧ Q (.str d.shown) H
theorem call_reprZ {X : Cx} (hu : X.A.units + 65 < cLine) (hg : X.A.guards = some []) : CallR X (.builtin "repr") (rReprZ X.K) := by
  intro pins s σ H xs us Q I r h
  obtain ⟨v, d, rfl, hd, ⟨sh, dep, sz⟩, q⟩ := h
  cases hd with
  | non => exact call_reprV hu hg pins s σ H _ us Q I r ⟨_, _, rfl, .non, ⟨sh, rfl, dep, sz⟩, q⟩
  | bl b => exact call_reprV hu hg pins s σ H _ us Q I r ⟨_, _, rfl, .bl b, ⟨sh, rfl, dep, sz⟩, q⟩
  | int i => exact call_reprV hu hg pins s σ H _ us Q I r ⟨_, _, rfl, .int i, ⟨sh, rfl, dep, sz⟩, q⟩
  | str x => exact call_reprV hu hg pins s σ H _ us Q I r ⟨_, _, rfl, .str x, ⟨sh, rfl, dep, sz⟩, q⟩
  | tup hs ha => exact call_reprT hu hg pins s σ H _ us Q I r ⟨_, _, rfl, .tup hs ha, ⟨sh, dep, sz⟩, q⟩
  | lst hs ha =>
    rename_i a xs ds
    obtain ⟨u, rfl, ru⟩ := L2.vals1 r
    obtain ⟨as, rd⟩ := Dp.reads I (.list ds) _ _ (.lst hs ha) ru
    obtain rfl : u = Value.ref a := ru
    obtain ⟨its, rv, ⟨o, n, ho, hc, _, hd⟩, _⟩ := I.list hs
    have sz' : (listText (PyData.shownAll ds)).length ≤ sizeLine := by simpa only [PyData.shown] using sz
    obtain ⟨bs, hb, hk⟩ := dpAll_shown I ds _ its ha rv (by simpa only [PyData.showable] using sh) fun t ht => Nat.le_trans (listText_mem_le ht) sz'
    have hna := not_mem_of_deeper rd (by simp only [PyData.depth]; omega) hb
    have dp : PyData.depthAll ds + 1 ≤ 64 := by simpa only [PyData.depth] using dep
    simp only [PyData.shown] at q
    cases its with
    | nil =>
      cases rv
      cases ha
      simp only [PyData.shownAll, listText_nil] at q
      exact call_repr_slot (by omega) ⟨o, ho, hc⟩ F.slot_list_repr.toG (call_list_repr_empty ⟨o, ho, hc⟩ ho hd ⟨_, _, rfl, ⟨.str _, H, I.tok _, ⟨_, rfl⟩, q⟩⟩)
    | cons y ys =>
      refine call_repr_slot (by omega) ⟨o, ho, hc⟩ F.slot_list_repr.toG (call_list_reprK ho hc hd hna (by simpa using hk.length_eq) (fun i z e => hk.item i z (by simpa using e)) hg (fun b _ => Clear.nil b) (by show X.A.units + 1 + _ < _; omega) (fun _ _ e => e) (fun h' u tk k => ⟨_, _, rfl, ?_⟩) sz')
      exact ⟨.str _, H, I.kept fun b o e => k b o e, ⟨u, rfl⟩, q⟩
  | dct hs =>
    obtain ⟨u, rfl, ru⟩ := L2.vals1 r
    obtain rfl : u = Value.ref _ := ru
    obtain ⟨_, hsys, vs, kv, o, es, ep, ho, ex, hd, _, ps, _⟩ := L2.dk_of I.hok hs
    have e0 : vs = [] := by
      cases kv
      rfl
    subst e0
    have e1 : es.toList = [] := List.length_eq_zero_iff.mp (by simpa using PySem.Pairs.length ps)
    simp only [PyData.shown, PyData.shownKv] at q
    refine call_repr_slot (by omega) ⟨o, ho, ex.1⟩ F.slot_dict_repr (call_dict_reprK (as := []) (d := 0) ho ex.1 hd hsys (by simp) (by rw [e1]; exact .nil) hg (fun b _ => Clear.nil b) (by show X.A.units + 1 + _ < _; omega) (fun _ _ e => e) (fun h' u tk k => ⟨_, _, rfl, ?_⟩) (by decide))
    exact ⟨.str _, H, I.kept fun b o e => k b o e, ⟨u, rfl⟩, q⟩
end DQ

set_option Elab.async false
set_option linter.all false
set_option maxRecDepth 100000
set_option maxHeartbeats 2000000
namespace DQ
open PySem PySem.Spec PyProof.Rows L2
/-! ### small data: what repr, ==, sorted want of it, part by part -/
/-- data that nests at most k deep, of weight at most n, its ints short -/
structure Sm (k n : Nat) (d : PyData) : Prop where
  lay : d.canLay0 = true
  dep : d.depth ≤ k
  wt : d.weight ≤ n
  sh : d.showable = true
  short : d.intsShort 13 = true
theorem Sm.mono {k n k' n' : Nat} {d : PyData} (h : Sm k n d) (hk : k ≤ k') (hn : n ≤ n') : Sm k' n' d := ⟨h.lay, Nat.le_trans h.dep hk, Nat.le_trans h.wt hn, h.sh, h.short⟩
theorem Sm.shows {k n : Nat} {d : PyData} (h : Sm k n d) (hk : k ≤ 64) (hn : n ≤ 1048576) : Shows d := by
  have hl : PyData.layable0 d = true := by
    show (PyData.canLay0 d && decide (PyData.depth d ≤ 64) && decide (PyData.weight d ≤ 2 ^ 20)) = true
    rw [h.lay, decide_eq_true (Nat.le_trans h.dep hk), decide_eq_true (show PyData.weight d ≤ 2 ^ 20 from Nat.le_trans h.wt (by simpa using hn))]
    rfl
  exact ⟨h.sh, PyData.hasDict_of_canLay d h.lay, Nat.le_trans h.dep hk, PyData.shown_fits_of_layable0 (B := 13) (by decide) (by decide) hl h.short⟩
theorem Sm.shaped {k n : Nat} {d : PyData} (h : Sm k n d) (hk : k ≤ 64) : SeqAt.shaped d = true := by
  show (PyData.canLay0 d && decide (PyData.depth d ≤ 64)) = true
  rw [h.lay, decide_eq_true (Nat.le_trans h.dep hk)]
  rfl
theorem sm_none : Sm 0 0 .none := ⟨rfl, Nat.le_refl _, Nat.le_refl _, rfl, rfl⟩
theorem sm_bool (b : Bool) : Sm 0 0 (.bool b) := ⟨rfl, Nat.le_refl _, Nat.le_refl _, rfl, rfl⟩
theorem sm_int {i : Int} (h1 : -100000000000 ≤ i) (h2 : i ≤ 100000000000) : Sm 0 64 (.int i) := by
  have h : i.natAbs < 10 ^ 12 := by omega
  have hl : i.natAbs.log2 < 64 := by
    by_cases z : i.natAbs = 0
    · rw [z]; decide
    · exact (Nat.log2_lt z).mpr (Nat.lt_trans h (by decide))
  refine ⟨rfl, Nat.le_refl _, ?_, ?_, ?_⟩
  · simp only [PyData.weight]
    split <;> omega
  · simp only [PyData.showable]
    exact decide_eq_true (by omega)
  · simp only [PyData.intsShort]
    exact decide_eq_true (PyData.shown_int_le h)
theorem sm_str {x : Str} {n : Nat} (h : PyData.canLay0 (.str x) = true) (hn : x.cps.size ≤ n) : Sm 0 n (.str x) := ⟨h, Nat.le_refl _, by simpa only [PyData.weight] using hn, rfl, rfl⟩
structure SmAll (k n : Nat) (ds : List PyData) : Prop where
  lay : PyData.canLayAll0 ds = true
  dep : PyData.depthAll ds ≤ k
  wt : PyData.weightAll ds ≤ ds.length * (n + 1)
  sh : PyData.showableAll ds = true
  short : PyData.intsShortAll 13 ds = true
theorem smAll {k n : Nat} : ∀ {ds : List PyData}, (∀ d ∈ ds, Sm k n d) → SmAll k n ds
  | [], _ => ⟨rfl, Nat.zero_le _, Nat.zero_le _, rfl, rfl⟩
  | d :: ds, h => by
    have a := h d (List.mem_cons_self ..)
    have b := smAll (ds := ds) fun e he => h e (List.mem_cons_of_mem _ he)
    refine ⟨?_, ?_, ?_, ?_, ?_⟩
    · simp only [PyData.canLayAll0]
      rw [a.lay, b.lay]
      rfl
    · simp only [PyData.depthAll]
      exact Nat.max_le.mpr ⟨a.dep, b.dep⟩
    · simp only [PyData.weightAll, List.length_cons]
      have := a.wt
      have := b.wt
      rw [Nat.add_mul]
      omega
    · simp only [PyData.showableAll]
      rw [a.sh, b.sh]
      rfl
    · simp only [PyData.intsShortAll]
      rw [a.short, b.short]
      rfl
theorem SmAll.list {k n m : Nat} {ds : List PyData} (h : SmAll k n ds) (hm : ds.length ≤ m) : Sm (k + 1) (m * (n + 1)) (.list ds) := by
  refine ⟨by simpa only [PyData.canLay0] using h.lay, ?_, ?_, by simpa only [PyData.showable] using h.sh, by simpa only [PyData.intsShort] using h.short⟩
  · simp only [PyData.depth]
    have := h.dep
    omega
  · simp only [PyData.weight]
    exact Nat.le_trans h.wt (Nat.mul_le_mul_right _ hm)
theorem SmAll.tuple {k n m : Nat} {ds : List PyData} (h : SmAll k n ds) (hm : ds.length ≤ m) : Sm (k + 1) (m * (n + 1)) (.tuple ds) := by
  refine ⟨by simpa only [PyData.canLay0] using h.lay, ?_, ?_, by simpa only [PyData.showable] using h.sh, by simpa only [PyData.intsShort] using h.short⟩
  · simp only [PyData.depth]
    have := h.dep
    omega
  · simp only [PyData.weight]
    exact Nat.le_trans h.wt (Nat.mul_le_mul_right _ hm)
theorem Sm.eqv {k n : Nat} {d : PyData} (h : Sm k n d) (hk : k ≤ 64) : PyData.eqv d d = true := SeqAt.eqv_refl d (SeqAt.canLay_of_shaped (h.shaped hk))
/-! ### the same, weights added up -/
structure SmL (k n : Nat) (ds : List PyData) : Prop where
  lay : PyData.canLayAll0 ds = true
  dep : PyData.depthAll ds ≤ k
  wt : PyData.weightAll ds ≤ n
  sh : PyData.showableAll ds = true
  short : PyData.intsShortAll 13 ds = true
theorem sml_nil {k n : Nat} : SmL k n [] := ⟨rfl, Nat.zero_le _, Nat.zero_le _, rfl, rfl⟩
theorem SmL.mono {k n k' n' : Nat} {ds : List PyData} (h : SmL k n ds) (hk : k ≤ k') (hn : n ≤ n') : SmL k' n' ds := ⟨h.lay, Nat.le_trans h.dep hk, Nat.le_trans h.wt hn, h.sh, h.short⟩
theorem Sm.cons {k j a b : Nat} {d : PyData} {ds : List PyData} (x : Sm j a d) (r : SmL k b ds) (hj : j ≤ k) : SmL k (a + 1 + b) (d :: ds) := by
  refine ⟨?_, ?_, ?_, ?_, ?_⟩
  · simp only [PyData.canLayAll0]
    rw [x.lay, r.lay]; rfl
  · simp only [PyData.depthAll]
    exact Nat.max_le.mpr ⟨Nat.le_trans x.dep hj, r.dep⟩
  · simp only [PyData.weightAll]
    have := x.wt
    have := r.wt
    omega
  · simp only [PyData.showableAll]
    rw [x.sh, r.sh]; rfl
  · simp only [PyData.intsShortAll]
    rw [x.short, r.short]; rfl
theorem SmL.tuple {k n : Nat} {ds : List PyData} (h : SmL k n ds) : Sm (k + 1) n (.tuple ds) := by
  refine ⟨by simpa only [PyData.canLay0] using h.lay, ?_, by simpa only [PyData.weight] using h.wt, by simpa only [PyData.showable] using h.sh, by simpa only [PyData.intsShort] using h.short⟩
  simp only [PyData.depth]
  have := h.dep
  omega
theorem SmL.list {k n : Nat} {ds : List PyData} (h : SmL k n ds) : Sm (k + 1) n (.list ds) := by
  refine ⟨by simpa only [PyData.canLay0] using h.lay, ?_, by simpa only [PyData.weight] using h.wt, by simpa only [PyData.showable] using h.sh, by simpa only [PyData.intsShort] using h.short⟩
  simp only [PyData.depth]
  have := h.dep
  omega
theorem Sm.untup {k n : Nat} {ds : List PyData} (h : Sm k n (.tuple ds)) : ∃ j, k = j + 1 ∧ SmL j n ds := by
  have h1 : PyData.depthAll ds + 1 ≤ k := by simpa only [PyData.depth] using h.dep
  obtain ⟨j, rfl⟩ : ∃ j, k = j + 1 := ⟨k - 1, by omega⟩
  exact ⟨j, rfl, by simpa only [PyData.canLay0] using h.lay, by omega, by simpa only [PyData.weight] using h.wt, by simpa only [PyData.showable] using h.sh, by simpa only [PyData.intsShort] using h.short⟩
theorem SmL.uncons {k n : Nat} {d : PyData} {ds : List PyData} (h : SmL k n (d :: ds)) : ∃ a b, a + 1 + b ≤ n ∧ Sm k a d ∧ SmL k b ds := by
  have h1 : (PyData.canLay0 d && PyData.canLayAll0 ds) = true := by simpa only [PyData.canLayAll0] using h.lay
  have h2 : max (PyData.depth d) (PyData.depthAll ds) ≤ k := by simpa only [PyData.depthAll] using h.dep
  have h3 := h.wt
  simp only [PyData.weightAll] at h3
  have h4 : (d.showable && PyData.showableAll ds) = true := by simpa only [PyData.showableAll] using h.sh
  have h5 : (d.intsShort 13 && PyData.intsShortAll 13 ds) = true := by simpa only [PyData.intsShortAll] using h.short
  rw [Bool.and_eq_true] at h1 h4 h5
  exact ⟨d.weight, PyData.weightAll ds, by omega, ⟨h1.1, by omega, Nat.le_refl _, h4.1, h5.1⟩, ⟨h1.2, by omega, Nat.le_refl _, h4.2, h5.2⟩⟩
theorem Sm.showsZ {k n : Nat} {d : PyData} (h : Sm k n d) (hk : k ≤ 64) (hn : n ≤ 1048576) : ShowsZ d := let s := h.shows hk hn; ⟨s.sh, s.dep, s.sz⟩
end DQ

set_option Elab.async false
set_option linter.all false
set_option maxRecDepth 100000
set_option maxHeartbeats 1000000
namespace DQ
open PySem PySem.Spec PyProof.Rows L2
/-! ### f(value = v): keywords alone, of a def that does not raise -/
def tCallK1 (m : Nat) (sp : Sp) (tk : TA) : TE := fun σ H Q => tk σ H fun zs H2 => zs.length = m ∧ sp zs H2 Q E0
section
variable {X : Cx} {k : Nat} {f : Addr} {fd : FuncData} {ps ks : List Str} {sp : Sp} {x : Str} {p pos : Pos} {kws : List Keyword} {tk : TA}
theorem pe_callK1 (F : FnOk X.prog X.w X.K X.mg X.base CX0 k f fd ps sp) (hr : Room k X.A) (hg : Gl X x) (hm : X.mg x = some (.ref f)) (hk : PySem.W.keepIn X.K (.ref f) = true) (hb : KBn X.K fd ps 0 ks (fun us ws => us ++ ws) (fun us ws => us ++ ws)) (hkw : PK X kws tk)
    (hall : (backToKw pos (keywordEach kws X.env)).all (·.1.isSome) = true := by rfl) (hks : (backToKw pos (keywordEach kws X.env)).filterMap (·.1) = ks := by rfl) (hdb : (x == ("__debug__" : Str)) = false := by decide)
    (hpl : ((backTo pos (starEach [] X.env)).any (·.1) || (backToKw pos (keywordEach kws X.env)).any (·.1.isNone)) = false := by rfl) :
    PE X (.Call (.Name x p) [] kws pos) (tCallK1 ks.length sp tk) := ⟨fun pins s σ H Q I h => by
  refine wpAny_Call_Name_kw (ld_glob I hg hm (PySem.W.callWith_KW0 (h₀ := X.base) I.ok.mod.kin hk hall (thn (hkw.run pos pins s σ H _ I h) fun ws s1 h1 => ?_) hpl) hdb)
  obtain ⟨zs, H1, I1, rz, lz, q1⟩ := h1
  refine ⟨I1.kIn, ?_⟩
  rw [hks]
  have e2 : ws.length = ks.length := rz.length.symm.trans lz
  show wpAny _ _ (call (.ref f) [] (ks.zip ws)) _ _ _
  refine wpAny_call (codeAny_mono (F.run X.A X.stack s1 H1 ⟨[], ks.zip ws⟩ ([] ++ ws) ([] ++ zs) Q E0 hr I1.env0 (hb.to s1 [] ws I1.kIn rfl e2) (hb.rel .nil rz) q1) fun r s' hq => ?_)
  cases r with
  | error e => exact (show False from hq).elim
  | ok fl =>
    cases fl with
    | ret u => exact I1.after hq
    | next => exact False.elim hq
    | brk => exact False.elim hq
    | cont => exact False.elim hq⟩
end
section
variable {K : PySem.W.Frag} {f : Addr} {fd : FuncData}
theorem kb_one {x p : Str} {st : Stmt} (F : Fun K x x st f fd) (h : ∀ (kV doc pm : Value) (an : Option Addr) (cdv ct : Value) (s : Shared) (w : Value), BindsTo s (PySem.W.fnOf x x (defArgs st) (defBody st) (defScope st) .none kV doc pm an cdv ct) ⟨[], [p].zip [w]⟩ ([p].zip [w])) : KBn K fd [p] 0 [p] (fun us ws => us ++ ws) (fun us ws => us ++ ws) := by
  obtain ⟨oc, od, kV, doc, pm, an, cdv, ct, osl, rfl, lk, hcd⟩ := F.ex
  exact ⟨fun s us ws X l1 l2 => match us, l1, ws, l2 with
    | [], _, [w], _ => h kV doc pm an cdv ct s w, fun r1 r2 => r1.append r2⟩
end
end DQ

set_option linter.all false
namespace DQ
open PySem PySem.Spec PyProof.Rows L2
theorem room65 {k : Nat} {A : Around} (r : Room k A) : A.units + 65 < cLine := by have := r.un; omega
end DQ

set_option Elab.async false
set_option linter.all false
set_option maxRecDepth 100000
set_option maxHeartbeats 1000000
namespace DQ
open PySem PySem.Spec PyProof.Rows L2
/-! ### _law_judged_right -/
abbrev sJudged : Stmt := topS 49
abbrev NJu : List Str := ["value", "due", "kept"]
theorem scJudged : FnScope NJu ["value"] (defScope sJudged) := ⟨rfl, rfl, rfl, by decide +kernel, rfl, by decide +kernel, by decide +kernel⟩
theorem pre_p : ∀ (g : Gn) (p : List Nat) (ar : List Str), ∀ e ∈ preG g p ar, e.p.length ≤ p.length + g.dep ∧ ∀ k ∈ e.p, k ∈ p ∨ k ≤ 1
  | .bad _, p, ar, e, h => by rw [List.mem_singleton.mp h]; exact ⟨Nat.le_add_right _ _, fun k hk => .inl hk⟩
  | .tr _, p, ar, e, h => by rw [List.mem_singleton.mp h]; exact ⟨Nat.le_add_right _ _, fun k hk => .inl hk⟩
  | .mk _ _, p, ar, e, h => by rw [List.mem_singleton.mp h]; exact ⟨Nat.le_add_right _ _, fun k hk => .inl hk⟩
  | .lk _ _ _, p, ar, e, h => by rw [List.mem_singleton.mp h]; exact ⟨Nat.le_add_right _ _, fun k hk => .inl hk⟩
  | .sm _ _, p, ar, e, h => by rw [List.mem_singleton.mp h]; exact ⟨Nat.le_add_right _ _, fun k hk => .inl hk⟩
  | .nt a, p, ar, e, h => by
    rcases List.mem_cons.mp h with rfl | h
    · exact ⟨Nat.le_add_right _ _, fun k hk => .inl hk⟩
    · obtain ⟨h1, h2⟩ := pre_p a _ _ e h
      refine ⟨by simp only [Gn.dep, List.length_append, List.length_singleton] at h1 ⊢; omega, fun k hk => ?_⟩
      rcases h2 k hk with z | z
      · rcases List.mem_append.mp z with z | z
        · exact .inl z
        · exact .inr (by rw [List.mem_singleton.mp z]; omega)
      · exact .inr z
  | .cn b a c, p, ar, e, h => by
    rcases List.mem_cons.mp h with rfl | h
    · exact ⟨Nat.le_add_right _ _, fun k hk => .inl hk⟩
    · rcases List.mem_append.mp h with h | h
      · obtain ⟨h1, h2⟩ := pre_p a _ _ e h
        refine ⟨by simp only [Gn.dep, List.length_append, List.length_singleton] at h1 ⊢; omega, fun k hk => ?_⟩
        rcases h2 k hk with z | z
        · rcases List.mem_append.mp z with z | z
          · exact .inl z
          · exact .inr (by rw [List.mem_singleton.mp z]; omega)
        · exact .inr z
      · obtain ⟨h1, h2⟩ := pre_p c _ _ e h
        refine ⟨by simp only [Gn.dep, List.length_append, List.length_singleton] at h1 ⊢; omega, fun k hk => ?_⟩
        rcases h2 k hk with z | z
        · rcases List.mem_append.mp z with z | z
          · exact .inl z
          · exact .inr (by rw [List.mem_singleton.mp z]; omega)
        · exact .inr z
  | .qu b x a, p, ar, e, h => by
    rcases List.mem_cons.mp h with rfl | h
    · exact ⟨Nat.le_add_right _ _, fun k hk => .inl hk⟩
    · obtain ⟨h1, h2⟩ := pre_p a _ _ e h
      refine ⟨by simp only [Gn.dep, List.length_append, List.length_singleton] at h1 ⊢; omega, fun k hk => ?_⟩
      rcases h2 k hk with z | z
      · rcases List.mem_append.mp z with z | z
        · exact .inl z
        · exact .inr (by rw [List.mem_singleton.mp z]; omega)
      · exact .inr z
def whys : List Str := ["form", "word", "bound", "free"]
theorem why_in {d : PyData} {ar : List Str} {y : Str} (h : whyQ d ar = some y) : y ∈ whys := by
  unfold whyQ at h
  split at h
  · split at h
    · split at h
      · split at h
        · injection h with h; rw [← h]; decide +kernel
        · cases h
      · injection h with h; rw [← h]; decide +kernel
    · injection h with h; rw [← h]; decide +kernel
  · injection h with h; rw [← h]; decide +kernel
theorem due_in {g : Gn} (ok : g.good) {p : List Nat} {y : Str} (h : dueG g = some (p, y)) : y ∈ whys ∧ ∃ e ∈ preG g [] [], e.p = p := by
  unfold dueG at h
  cases hf : fw1 g [] [] with
  | some r =>
    rw [hf] at h
    have h : r = (p, y) := by injection h
    subst h
    have hf : (preG g [] []).findSome? (fun e => e.why.map fun y => (e.p, y)) = some (p, y) := hf
    obtain ⟨e, he, hq⟩ := List.exists_of_findSome?_eq_some hf
    cases hw : e.why with
    | none => rw [hw] at hq; cases hq
    | some z =>
      rw [hw] at hq
      have hq : (e.p, z) = (p, y) := by injection hq
      injection hq with h1 h2
      have hw2 : whyQ e.g.d e.ar = some z := (why_of (pre_good g [] [] ok e he).1 e.ar).trans hw
      exact ⟨h2 ▸ why_in hw2, e, he, h1⟩
  | none =>
    rw [hf] at h
    have h : (preG g [] []).findSome? (En.freeWrong (freeS g.toQ)) = some (p, y) := h
    obtain ⟨e, he, hq⟩ := List.exists_of_findSome?_eq_some h
    rw [free_qu] at hq
    split at hq
    · injection hq with hq
      injection hq with h1 h2
      exact ⟨by rw [← h2]; decide +kernel, e, he, h1⟩
    · cases hq
theorem sm_nat {k : Nat} (h : k ≤ 1) : Sm 0 64 (.int (k : Nat)) := sm_int (by omega) (by omega)
theorem sm_due {g : Gn} (ok : g.good) (dep : g.dep < 30) : Sm 2 3000 (wrongD (dueG g)) := by
  cases h : dueG g with
  | none => exact sm_none.mono (by decide) (by decide)
  | some r =>
    obtain ⟨p, y⟩ := r
    obtain ⟨hy, e, he, rfl⟩ := due_in ok h
    obtain ⟨h1, h2⟩ := pre_p g [] [] e he
    rw [List.length_nil, Nat.zero_add] at h1
    have a : Sm 1 (30 * 65) (.tuple (e.p.map fun (k : Nat) => PyData.int (k : Nat))) := by
      refine SmAll.tuple (k := 0) (n := 64) (m := 30) (smAll fun d hd => ?_) (by rw [List.length_map]; omega)
      obtain ⟨k, hk, rfl⟩ := List.mem_map.mp hd
      rcases h2 k hk with z | z
      · cases z
      · exact sm_nat z
    have b : Sm 0 10 (.str y) := by
      unfold whys at hy
      simp only [List.mem_cons, List.not_mem_nil, or_false] at hy
      rcases hy with rfl | rfl | rfl | rfl <;> exact sm_str (by decide +kernel) (by decide +kernel)
    exact ((a.cons (b.cons (sml_nil (n := 0)) (Nat.zero_le _)) (Nat.le_refl _)).tuple).mono (by decide) (by decide)
section
variable {P : Program} {w : World} {K : PySem.W.Frag} {mg : Str → Option Value} {base : Heap}
def spJudged (K : PySem.W.Frag) : Sp := fun vs H Q _ => ∃ (v : V) (g : Gn), vs = [v] ∧ Dp K H v g.d ∧ g.ok ∧ Sm 60 1000000 g.d ∧ g.dep < 30 ∧ g.sz ≤ 1000 ∧ ∀ H', Same H H' → Q (.bl true) H'
theorem ok_judged {f fD fF fI : Addr} {fd dD dF dI : FuncData} (F : Fun K "_law_judged_right" "_law_judged_right" sJudged f fd) (GD : FnOk P w K mg base CX0 36 fD dD ["value"] (spDue K)) (bD : Binds K dD ["value"] []) (kD : PySem.W.keepIn K (.ref fD) = true) (mD : mg "_law_due" = some (.ref fD))
    (GF : FnOk P w K mg base CX0 5 fF dF ["value"] (spFirst K)) (bF : Binds K dF ["value"] []) (kF : PySem.W.keepIn K (.ref fF) = true) (mF : mg "first_wrong" = some (.ref fF)) (kbF : KBn K dF ["value"] 0 ["value"] (fun us ws => us ++ ws) (fun us ws => us ++ ws))
    (GI : FnOk P w K mg base CX0 6 fI dI ["value"] (spIsQ K)) (bI : Binds K dI ["value"] []) (kI : PySem.W.keepIn K (.ref fI) = true) (mI : mg "is_question" = some (.ref fI)) (kbI : KBn K dI ["value"] 0 ["value"] (fun us ws => us ++ ws) (fun us ws => us ++ ws))
    (mRepr : mg "repr" = none) : FnG P w K mg base CX0 37 f fd ["value"] (spJudged K) := by
  refine fun_okG F scJudged (fun vs H Q E h => ?_) (fun cdv A outer s H vs Q E hr hG h => ?_)
  · obtain ⟨_, _, rfl, _⟩ := h
    rfl
  obtain ⟨v, g, rfl, hd, ok, sm, dep, size, q⟩ := h
  have nd := scJudged.nd
  refine ⟨_, (pss_cons (ps_par (i := 1) (j := 2) rfl nd rfl rfl (by decide) rfl rfl (pa_cons (pe_call GD (hr.mono (by decide)) rfl mD kD bD .nil pass0 (pa_cons (pv 0) pa_nil)) (pa_cons (pe_callB (call_reprZ (room65 hr) hG) (by rfl) mRepr (by decide +kernel) (pa_cons (pv 0) pa_nil)) pa_nil)) (by rfl))
     (pss_cons (ps_if (PW.pt (pw_or (pt_cmpR op_ne (pe_callB (call_reprZ (room65 hr) hG) (by rfl) mRepr (by decide +kernel) (pa_cons (pe_call GF (hr.mono (by decide)) rfl mF kF bF .nil pass0 (pa_cons (pv 0) pa_nil)) pa_nil)) (pe_callB (call_reprZ (room65 hr) hG) (by rfl) mRepr (by decide +kernel) (pa_cons (pv 1) pa_nil)) (nomark _)) (pw_or (pt_cmpR (r := rNeD K) (op_neD hr.units) (pe_callK1 GF (hr.mono (by decide)) rfl mF kF kbF (pk_cons (pv 0) pk_nil)) (pv 1) (nomark _)) (pw_or1 (pt_cmpR op_ne (pe_callB (call_reprZ (room65 hr) hG) (by rfl) mRepr (by decide +kernel) (pa_cons (pe_call GI (hr.mono (by decide)) rfl mI kI bI .nil pass0 (pa_cons (pv 0) pa_nil)) pa_nil)) (pe_callB (call_reprZ (room65 hr) hG) (by rfl) mRepr (by decide +kernel) (pa_cons (pe_cmpR op_isN (pv 1) pe_non (nomark _)) pa_nil)) (nomark _)))))) (pss_one (ps_ret pe_bl)) pss_nil)
     (pss_one (ps_ret (pe_and (pe_cmpR op_eq (pe_callK1 GI (hr.mono (by decide)) rfl mI kI kbI (pk_cons (pv 0) pk_nil)) (pe_cmpR op_isN (pv 1) pe_non (nomark _)) (nomark _)) (pe_one (pe_cmpR op_eq (pe_callB (call_reprZ (room65 hr) hG) (by rfl) mRepr (by decide +kernel) (pa_cons (pv 0) pa_nil)) (pv 2) (nomark _)))))))), ?_⟩
  have good : g.good := ⟨ok, sm.shaped (by decide)⟩
  have shG := sm.showsZ (by decide) (by decide)
  have smD := sm_due good dep
  have shD := smD.showsZ (by decide) (by decide)
  refine seq_par (fun x y H' => y = .str g.d.shown ∧ Same H H' ∧ Dp K H' x (wrongD (dueG g))) (fun R hR => ?_) fun x y H1 ⟨ey, s1, dx⟩ => ?_
  · exact ⟨v, rfl, nil_read (show spDue K [v] H _ E0 from ⟨v, g, rfl, hd, good, dep, size, fun x H1 s1 dx => ⟨v, rfl, nil_read ⟨v, g.d, rfl, dp_same s1 _ _ hd, shG, nil_read (hR _ _ _ ⟨rfl, s1, dx⟩)⟩⟩⟩)⟩
  subst ey
  show tSeq (tIfS _ _ _) _ _ [some v, some x, some (.str g.d.shown)] H1
  have isN : ∀ {H' : Hp}, Dp K H' x (wrongD (dueG g)) → decide (x = V.non) = decide (dueG g = none) := fun {H'} d => by
    cases h : dueG g with
    | none => rw [h] at d; cases d; rfl
    | some r => obtain ⟨p, y⟩ := r; rw [h] at d; cases d; rfl
  refine seq_any (fun σ' H' => σ' = [some v, some x, some (.str g.d.shown)] ∧ Same H H' ∧ Same H1 H') (fun D' rt' nx' => ?_) fun σ' H2 ⟨eσ, s2, s12⟩ => ?_
  · refine ⟨v, rfl, nil_read (show spFirst K [v] H1 _ E0 from ⟨v, g, rfl, dp_same s1 _ _ hd, good, size, fun y H2 s2 dy => nil_read ⟨y, _, rfl, dy, shD, ?_⟩⟩)⟩
    refine ⟨x, rfl, nil_read ⟨x, _, rfl, dp_same s2 _ _ dx, shD, rfl, _, rfl, iteF' (by simp) ?_⟩⟩
    refine ⟨v, rfl, nil_read ⟨rfl, (show spFirst K [v] H2 _ E0 from ⟨v, g, rfl, dp_same (s1.trans s2) _ _ hd, good, size, fun z H3 s3 dz => ?_⟩)⟩⟩
    refine ⟨x, rfl, _, _, dz, dp_same (s2.trans s3) _ _ dx, smD.shaped (by decide), smD.shaped (by decide), _, rfl, ?_⟩
    rw [smD.eqv (by decide)]
    refine iteF' rfl ?_
    have s23 := s2.trans s3
    refine ⟨v, rfl, nil_read (show spIsQ K [v] H3 _ E0 from ⟨v, g, rfl, dp_same (s1.trans s23) _ _ hd, good, size, fun H4 s4 => nil_read ⟨_, .bool (decide (dueG g = none)), rfl, .bl _, ?_, ?_⟩⟩)⟩
    · exact (sm_bool _).showsZ (by decide) (by decide)
    refine ⟨x, rfl, rfl, nil_read ⟨_, .bool (decide (x = V.non)), rfl, .bl _, ?_, ?_⟩⟩
    · exact (sm_bool _).showsZ (by decide) (by decide)
    rw [isN dx]
    exact ⟨rfl, _, rfl, iteF' (by simp) (nx' _ _ ⟨rfl, (s1.trans s23).trans s4, s23.trans s4⟩)⟩
  subst eσ
  refine ⟨v, rfl, nil_read ⟨rfl, (show spIsQ K [v] H2 _ E0 from ⟨v, g, rfl, dp_same s2 _ _ hd, good, size, fun H3 s3 => ?_⟩)⟩⟩
  refine ⟨x, rfl, rfl, rfl, _, rfl, ?_⟩
  rw [isN dx]
  refine iteT' (by simp) ⟨v, rfl, nil_read ⟨v, g.d, rfl, dp_same (s2.trans s3) _ _ hd, shG, _, rfl, rfl, ?_⟩⟩
  have := q H3 (s2.trans s3)
  simpa using this
end
end DQ

set_option Elab.async false
set_option linter.all false
set_option maxRecDepth 100000
set_option maxHeartbeats 1000000
namespace DQ
open PySem PySem.Spec PyProof.Rows L2
/-! ### _law_put -/
abbrev sPut : Stmt := topS 47
abbrev NPu : List Str := ["value", "place", "new", "at"]
theorem scPut : FnScope NPu ["value", "place", "new"] (defScope sPut) := ⟨rfl, rfl, rfl, by decide +kernel, rfl, by decide +kernel, by decide +kernel⟩
/-- the heap without one place -/
def off (H : Hp) (g : Addr) : Hp := fun b => if b = g then none else H b
theorem off_le {H : Hp} {g : Addr} : Same (off H g) H := fun b o h => by
  unfold off at h
  split at h
  · cases h
  · exact h
theorem off_at {H : Hp} {g b : Addr} (n : b ≠ g) : off H g b = H b := if_neg n
theorem off_same {H H' : Hp} {g : Addr} (s : Same H H') : Same (off H g) (off H' g) := fun b o h => by
  unfold off at h ⊢
  split at h
  · cases h
  · rename_i n
    rw [if_neg n]
    exact s _ _ h
theorem off_but {H H' : Hp} {g : Addr} (s : Keep g H H') : Same (off H g) (off H' g) := fun b o h => by
  unfold off at h ⊢
  split at h
  · cases h
  · rename_i n
    rw [if_neg n]
    exact s _ _ n h
theorem ne_off {H : Hp} {g p : Addr} (hg : H g ≠ none) (np : H p = none) : p ≠ g := fun e => hg (by rw [← e]; exact np)
theorem on_same {H H' : Hp} {g : Addr} (s : Same H H') (hg : H g ≠ none) : H' g ≠ none := by
  cases h : H g with
  | none => exact absurd h hg
  | some o => rw [s _ _ h]; exact Option.some_ne_none o
theorem new_off {K : PySem.W.Frag} {H : Hp} {g p : Addr} {xs : List V} (hg : H g ≠ none) (np : H p = none) : SqT K (off (upd H p (.tup xs)) g) p xs := SqT.of (by rw [off_at (ne_off hg np)]; exact upd_same)
/-- a part put in a place -/
def putG : Gn → List Nat → Gn → Gn
  | .nt a, 0 :: p, n => .nt (putG a p n)
  | .cn b a c, 0 :: p, n => .cn b (putG a p n) c
  | .cn b a c, 1 :: p, n => .cn b a (putG c p n)
  | .qu b x a, 0 :: p, n => .qu b x (putG a p n)
  | g, [], n => n
  | g, _, _ => g
def isPl : Gn → List Nat → Bool
  | _, [] => true
  | .nt a, 0 :: p => isPl a p
  | .cn _ a _, 0 :: p => isPl a p
  | .cn _ _ c, 1 :: p => isPl c p
  | .qu _ _ a, 0 :: p => isPl a p
  | _, _ => false
theorem put_nil (g n : Gn) : putG g [] n = n := by cases g <;> rfl
theorem isPl_nil (g : Gn) : isPl g [] = true := by cases g <;> rfl
/-- the parts around the one that changes -/
theorem put_shape {g : Gn} {k : Nat} {p : List Nat} (h : isPl g (k :: p) = true) (n : Gn) : ∃ (w : Str) (A B : List PyData) (s : Gn), g.d = .tuple (.str w :: (A ++ s.d :: B)) ∧ (putG g (k :: p) n).d = .tuple (.str w :: (A ++ (putG s p n).d :: B)) ∧ A.length = k + (if quanW w = true then 1 else 0) ∧ A.length + B.length ≤ 2 ∧ isPl s p = true ∧ s.dep < g.dep := by
  cases g with
  | nt a =>
    match k, h with
    | 0, h => exact ⟨"not", [], [], a, rfl, rfl, by rw [if_neg (by decide +kernel)]; rfl, Nat.le_of_ble_eq_true rfl, h, Nat.lt_succ_self _⟩
    | k + 1, h => simp [isPl] at h
  | cn b a c =>
    have q : ¬ quanW (cnW b) = true := by cases b <;> decide +kernel
    match k, h with
    | 0, h => exact ⟨cnW b, [], [c.d], a, rfl, rfl, by rw [if_neg q]; rfl, Nat.le_of_ble_eq_true rfl, h, by show a.dep < max a.dep c.dep + 1; omega⟩
    | 1, h => exact ⟨cnW b, [a.d], [], c, rfl, rfl, by rw [if_neg q]; rfl, Nat.le_of_ble_eq_true rfl, h, by show c.dep < max a.dep c.dep + 1; omega⟩
    | k + 2, h => simp [isPl] at h
  | qu b x a =>
    have q : quanW (quW b) = true := by cases b <;> decide +kernel
    match k, h with
    | 0, h => exact ⟨quW b, [.str x], [], a, rfl, rfl, by rw [if_pos q]; rfl, Nat.le_of_ble_eq_true rfl, h, Nat.lt_succ_self _⟩
    | k + 1, h => simp [isPl] at h
  | _ => simp [isPl] at h
section
variable {P : Program} {w : World} {K : PySem.W.Frag} {mg : Str → Option Value} {base : Heap}
theorem dpAll_app {H : Hp} : ∀ {vs ws : List V} {ds es : List PyData}, DpAll K H vs ds → DpAll K H ws es → DpAll K H (vs ++ ws) (ds ++ es)
  | _, _, _, _, .nil, h => h
  | _, _, _, _, .cons a r, h => .cons a (dpAll_app r h)
theorem dpAll_split {H : Hp} : ∀ {A B : List PyData} {vs : List V}, DpAll K H vs (A ++ B) → ∃ as bs, vs = as ++ bs ∧ DpAll K H as A ∧ DpAll K H bs B
  | [], B, vs, h => ⟨[], vs, rfl, .nil, h⟩
  | a :: A, B, _, .cons x r => by
    obtain ⟨as, bs, rfl, h1, h2⟩ := dpAll_split r
    exact ⟨_ :: as, bs, rfl, .cons x h1, h2⟩
def spPut (K : PySem.W.Frag) (N : Nat) : Sp := fun vs H Q _ => ∃ (g : Addr) (v n : V) (p : Addr) (G new : Gn) (pl : List Nat), vs = [v, .ref p, n] ∧ H g ≠ none ∧ Dp K (off H g) v G.d ∧ Dp K (off H g) n new.d ∧ SqT K H p (pV pl) ∧ isPl G pl = true ∧ G.dep < N ∧ pl.length ≤ 1000 ∧ ∀ x H', Same H H' → Dp K (off H' g) x (putG G pl new).d → Q x H'
theorem put_none {f : Addr} {fd : FuncData} (F : Fun K "_law_put" "_law_put" sPut f fd) : FnOk P w K mg base CX0 1 f fd ["value", "place", "new"] (spPut K 0) := by
  refine F.ok scPut (fun vs H Q E h => ?_) (fun cdv A outer s H vs Q E hr h => ?_)
  · obtain ⟨_, _, _, _, _, _, _, rfl, _⟩ := h
    rfl
  · obtain ⟨_, _, _, _, _, _, _, _, _, _, _, _, _, h, _⟩ := h
    exact absurd h (Nat.not_lt_zero _)
theorem cut_to (k : Nat) (xs : List V) : cutV xs none (some (k : Int)) = xs.take k := cut_takeX (by omega)
theorem put_step {N : Nat} {f : Addr} {fd : FuncData} (F : Fun K "_law_put" "_law_put" sPut f fd) (GR : FnOk P w K mg base CX0 (N + 1) f fd ["value", "place", "new"] (spPut K N)) (bR : Binds K fd ["value", "place", "new"] []) (kR : PySem.W.keepIn K (.ref f) = true) (mR : mg "_law_put" = some (.ref f)) (mInt : mg "int" = none) : FnOk P w K mg base CX0 (N + 2) f fd ["value", "place", "new"] (spPut K (N + 1)) := by
  refine F.ok scPut (fun vs H Q E h => ?_) (fun cdv A outer s H vs Q E hr h => ?_)
  · obtain ⟨_, _, _, _, _, _, _, rfl, _⟩ := h
    rfl
  obtain ⟨g, v, n, p, G, new, pl, rfl, hg, hd, hn, hp, ispl, dep, few, q⟩ := h
  have nd := scPut.nd
  refine ⟨_, (pss_cons (ps_if (pt_cmpR (r := rEqD K) (op_eqD hr.units) (pv 1) (pe_tup pa_nil) (nomark _)) (pss_one (ps_ret (pv 2))) pss_nil)
     (pss_cons (ps_set (i := 3) nd rfl (.inl rfl) (pe_op op_add (pe_op op_add (pe_ix (r := rIxT K) ix_tup (pv 1) pe_int (fun _ _ => rfl)) pe_int) (pe_callTy call_int1 (by rfl) mInt (by decide +kernel) (pa_cons (pe_cmpR (r := rIn K false) op_in_seq (pe_ix (r := rIxT K) ix_tup (pv 0) pe_int (fun _ _ => rfl)) (pe_lst (pa_cons pe_str (pa_cons pe_str pa_nil))) (by with_unfolding_all rfl)) pa_nil))))
     (pss_one (ps_ret (pe_op op_catA (pe_op op_catA (pe_slice (r := rSlT K) sl_tup (pv 0) po_none (po_some (pv 3))) (pe_tup (pa_cons (pe_call GR (hr.mono (by omega)) rfl mR kR bR .nil pass0 (pa_cons (pe_ix (r := rIxT K) ix_tup (pv 0) (pv 3) (fun _ _ => rfl)) (pa_cons (pe_slice (r := rSlT K) sl_tup (pv 1) (po_some pe_int) po_none) (pa_cons (pv 2) pa_nil)))) pa_nil))) (pe_slice (r := rSlT K) sl_tup (pv 0) (po_some (pe_op op_add (pv 3) pe_int)) po_none)))))), ?_⟩
  have offle : Same (off H g) H := off_le
  refine seq_any (fun σ' H' => σ' = [some v, some (.ref p), some n, none] ∧ Same H H' ∧ pl ≠ []) (fun D' rt' nx' => ?_) fun σ' H1 ⟨eσ, s1, ne⟩ => ?_
  · refine ⟨_, rfl, Nat.zero_le _, fun t nt => ?_⟩
    have st := same_new nt (o := .tup [])
    refine ⟨placeD pl, .tuple [], .tup (sqT_same st hp) (dpAll_pV pl), .tup (SqT.of upd_same) .nil, ?_, by decide +kernel, _, rfl, ?_⟩
    · have := place_lay pl
      exact shaped_of this.1 (by rw [this.2]; decide)
    show if PyData.eqv (PyData.tuple (pl.map fun (k : Nat) => PyData.int (k : Nat))) (.tuple []) = true then _ else _
    rw [eqv_tnil]
    cases pl with
    | nil =>
      refine iteT' (by simp) ⟨_, rfl, ?_⟩
      rw [rt']
      refine q _ _ st ?_
      rw [put_nil]
      exact dp_same (off_same st) _ _ hn
    | cons k pl => exact iteF' (by simp) (nx' _ _ ⟨rfl, st, List.cons_ne_nil _ _⟩)
  subst eσ
  obtain ⟨k, pl, rfl⟩ : ∃ k r, pl = k :: r := by
    cases pl with
    | nil => exact absurd rfl ne
    | cons k r => exact ⟨k, r, rfl⟩
  obtain ⟨wd, A, B, S, eg, ep, la, lab, isS, depS⟩ := put_shape ispl new
  rw [eg] at hd
  rw [ep] at q
  have hg1 := on_same s1 hg
  have hd1 := dp_same (off_same s1 (g := g)) _ _ hd
  have hn1 := dp_same (off_same s1 (g := g)) _ _ hn
  have hp1 := sqT_same s1 hp
  cases hd1 with
  | @tup a xs _ hs0 ha =>
  cases ha with
  | @cons v0 vr _ _ h0 r0 =>
  cases h0
  obtain ⟨as, bs, rfl, hA, hB⟩ := dpAll_split r0
  cases hB with
  | @cons sv bs _ _ hS hB =>
  have lA := dpAll_len hA
  have lB := dpAll_len hB
  have hs : SqT K H1 a (V.str wd :: (as ++ sv :: bs)) := sqT_same off_le hs0
  have at_ : (V.str wd :: (as ++ sv :: bs))[A.length + 1]? = some sv := by
    rw [List.getElem?_cons_succ, List.getElem?_append_right (by omega), lA, Nat.sub_self]; rfl
  refine seq_te (fun y H' => y = .int ((A.length + 1 : Nat) : Int) ∧ Same H1 H') (fun R hR => ?_) fun y H2 ⟨ey, s2⟩ => ?_
  · refine ⟨_, rfl, p, _, 0, .int (k : Nat), rfl, rfl, hp1, atI_nat (j := 0) rfl, _, _, rfl, rfl, ?_⟩
    refine headinL_val quansL rfl hs (by decide) fun H2 s2 => nil_read (.inr ⟨_, rfl, _, _, rfl, rfl, hR _ _ ⟨?_, s2⟩⟩)
    rw [la]
    show V.int ((k : Int) + 1 + (if decide (wd ∈ quansL) = true then 1 else 0)) = _
    rw [show quanW wd = decide (wd ∈ quansL) from rfl]
    congr 1
    split <;> omega
  subst ey
  show tRet _ _ [some (.ref a), some (.ref p), some n, some (.int ((A.length + 1 : Nat) : Int))] H2
  have hs2 := sqT_same s2 hs
  have hp2 := sqT_same s2 hp1
  have hg2 := on_same s2 hg1
  have len : (V.str wd :: (as ++ sv :: bs)).length = A.length + B.length + 2 := by rw [List.length_cons, List.length_append, List.length_cons]; omega
  have sx0 : ∀ j : Nat, HT.sIx (V.str wd :: (as ++ sv :: bs)).length 0 (some (j : Int)) = min j (V.str wd :: (as ++ sv :: bs)).length := fun j => HT.sIx_nat _ 0 j
  have sx1 : ∀ j : Nat, HT.sIx (V.str wd :: (as ++ sv :: bs)).length (V.str wd :: (as ++ sv :: bs)).length (some (j : Int)) = min j (V.str wd :: (as ++ sv :: bs)).length := fun j => HT.sIx_nat _ _ j
  -- value[:at]
  refine ⟨_, rfl, _, rfl, ((A.length + 1 : Nat) : Int), rfl, a, _, rfl, hs2, fun ⟨_, z⟩ => ?_, fun t1 nt1 => ?_⟩
  · rw [sx1] at z; omega
  rw [cut_to]
  have tkA : (V.str wd :: (as ++ sv :: bs)).take (A.length + 1) = V.str wd :: as := by
    rw [List.take_succ_cons, ← lA, List.take_left']; rfl
  rw [tkA]
  have s3 := same_new nt1 (o := .tup (V.str wd :: as))
  have e3 : SqT K (off (L2.upd H2 t1 (.tup (V.str wd :: as))) g) t1 (V.str wd :: as) := new_off hg2 nt1
  generalize L2.upd H2 t1 (.tup (V.str wd :: as)) = H3 at *
  -- the call
  refine ⟨_, rfl, _, rfl, a, _, ((A.length + 1 : Nat) : Int), sv, rfl, rfl, sqT_same s3 hs2, atI_nat at_, _, rfl, 1, rfl, p, _, rfl, sqT_same s3 hp2, fun ⟨z, _⟩ => ?_, fun t2 nt2 => ?_⟩
  · rw [show HT.sIx (pV (k :: pl)).length 0 (some 1) = min 1 (pV (k :: pl)).length from HT.sIx_nat _ 0 1] at z
    unfold pV at z
    rw [List.length_map, List.length_cons] at z
    omega
  rw [show cutV (pV (k :: pl)) (some 1) none = pV pl from cut_one _ _]
  have s4 := same_new nt2 (o := .tup (pV pl))
  have e4 : SqT K (L2.upd H3 t2 (.tup (pV pl))) t2 (pV pl) := SqT.of upd_same
  have e34 := sqT_same (off_same s4 (g := g)) e3
  have hg4 := on_same (s3.trans s4) hg2
  generalize L2.upd H3 t2 (.tup (pV pl)) = H4 at *
  have s24 := s3.trans s4
  have s14 := s2.trans s24
  refine ⟨n, rfl, nil_read (show spPut K N [sv, .ref t2, n] H4 _ E0 from ⟨g, sv, n, t2, S, new, pl, rfl, hg4, dp_same (off_same s14 (g := g)) _ _ hS, dp_same (off_same s14 (g := g)) _ _ hn1, e4, isS, by omega, by rw [List.length_cons] at few; omega, fun x H5 s5 dx => ?_⟩)⟩
  have hg5 := on_same s5 hg4
  refine nil_read ⟨by show 1 ≤ sizeLine; decide, fun t3 nt3 => ?_⟩
  have s6 := same_new nt3 (o := .tup [x])
  have e6 : SqT K (L2.upd H5 t3 (.tup [x])) t3 [x] := SqT.of upd_same
  have dx6 := dp_same (off_same s6 (g := g)) _ _ dx
  have hg6 := on_same s6 hg5
  generalize L2.upd H5 t3 (.tup [x]) = H6 at *
  have s26 := (s24.trans s5).trans s6
  have e36 := sqT_same (off_same (s5.trans s6) (g := g)) e34
  have newp : ∀ {H : Hp} {q : Addr} {zs : List V}, H g ≠ none → H q = none → SqT K (off (L2.upd H q (.tup zs)) g) q zs := fun h1 h2 => new_off h1 h2
  -- the first sum
  refine ⟨t1, t3, V.str wd :: as, [x], rfl, rfl, sqT_same off_le e36, e6, by rw [List.length_cons, sizeLine_eq]; show _ + 1 ≤ _; omega, (fun e => by cases e), (fun _ e => by cases e), fun _ _ t4 nt4 => ?_⟩
  have s7 := same_new nt4 (o := .tup (V.str wd :: as ++ [x]))
  have e7 : SqT K (off (L2.upd H6 t4 (.tup (V.str wd :: as ++ [x]))) g) t4 (V.str wd :: as ++ [x]) := new_off hg6 nt4
  have hg7 := on_same s7 hg6
  generalize L2.upd H6 t4 (.tup (V.str wd :: as ++ [x])) = H7 at *
  have s27 := s26.trans s7
  -- value[at + 1:]
  refine ⟨_, rfl, _, rfl, _, _, rfl, rfl, ((A.length + 2 : Nat) : Int), (by first | rfl | (congr 1; omega)), a, _, rfl, sqT_same s27 hs2, fun ⟨z, _⟩ => ?_, fun t5 nt5 => ?_⟩
  · rw [sx0] at z; omega
  rw [cut_from]
  have tkB : (V.str wd :: (as ++ sv :: bs)).drop (A.length + 2) = bs := by
    rw [List.drop_succ_cons, ← lA, List.drop_append, List.drop_eq_nil_of_le (by omega)]
    simp
  rw [tkB]
  have s8 := same_new nt5 (o := .tup bs)
  have e8 : SqT K (L2.upd H7 t5 (.tup bs)) t5 bs := SqT.of upd_same
  have hg8 := on_same s8 hg7
  have e78 := sqT_same (off_same s8 (g := g)) e7
  generalize L2.upd H7 t5 (.tup bs) = H8 at *
  have s28 := s27.trans s8
  have s18 := s2.trans s28
  have s08 := s1.trans s18
  have dA := dpAll_same (off_same s18 (g := g)) _ _ hA
  have dB := dpAll_same (off_same s18 (g := g)) _ _ hB
  have dX := dp_same (off_same (s7.trans s8) (g := g)) _ _ dx6
  have full : DpAll K (off H8 g) (V.str wd :: as ++ [x] ++ bs) (PyData.str wd :: (A ++ (putG S pl new).d :: B)) := by
    have h1 := DpAll.cons (Dp.str wd) (dpAll_app dA (.cons dX dB))
    simpa using h1
  refine ⟨t4, t5, V.str wd :: as ++ [x], bs, rfl, rfl, sqT_same off_le e78, e8, by simp only [List.length_cons, List.length_append, List.length_nil]; rw [sizeLine_eq]; omega, (fun e => by cases e), fun _ e => ?_, fun _ _ t6 nt6 => ?_⟩
  · rw [e, List.append_nil] at full
    exact q _ _ s08 (.tup e78 full)
  · have s9 := same_new nt6 (o := .tup (V.str wd :: as ++ [x] ++ bs))
    exact q _ _ (s08.trans s9) (.tup (new_off hg8 nt6) (dpAll_same (off_same s9 (g := g)) _ _ full))
theorem ok_put {f : Addr} {fd : FuncData} (F : Fun K "_law_put" "_law_put" sPut f fd) (bR : Binds K fd ["value", "place", "new"] []) (kR : PySem.W.keepIn K (.ref f) = true) (mR : mg "_law_put" = some (.ref f)) (mInt : mg "int" = none) : ∀ N : Nat, FnOk P w K mg base CX0 (N + 1) f fd ["value", "place", "new"] (spPut K N)
  | 0 => put_none F
  | N + 1 => put_step F (ok_put F bR kR mR mInt N) bR kR mR mInt
end
end DQ

set_option Elab.async false
set_option linter.all false
set_option maxRecDepth 100000
set_option maxHeartbeats 1000000
namespace DQ
open PySem PySem.Spec PyProof.Rows L2
/-! ### the odd values, as trees -/
def shortW : PyData → Bool
  | .str x => decide (x.length ≤ 1000)
  | _ => true
def fitB (d : PyData) : Bool := SeqAt.shaped d && match d with
  | .tuple (.str h :: r) => (decide (h = "maybe") || (lenW h).isSome) && (!decide (lenW h = some (r.length + 1)) || (wordsQ h r).all shortW)
  | _ => true
def badB (d : PyData) : Bool := fitB d && (!formQ d || match d with
  | .tuple (.str h :: r) => decide (lenW h = some (r.length + 1)) && !(wordsQ h r).all wordQ
  | _ => false)
theorem fit_b {d : PyData} (h : fitB d = true) : Fit d := by
  unfold fitB at h
  rw [Bool.and_eq_true] at h
  obtain ⟨h1, h2⟩ := h
  refine ⟨h1, fun w r e => ?_, fun w r e l x hx => ?_⟩
  · subst e
    simp only [Bool.and_eq_true, Bool.or_eq_true, decide_eq_true_eq] at h2
    exact h2.1
  · subst e
    simp only [Bool.and_eq_true, Bool.or_eq_true, decide_eq_true_eq, Bool.not_eq_true', decide_eq_false_iff_not, List.all_eq_true] at h2
    rcases h2.2 with z | z
    · exact absurd l z
    · have := z _ hx
      unfold shortW at this
      simpa using this
theorem bad_b {d : PyData} (h : badB d = true) : (Gn.bad d).ok := by
  unfold badB at h
  rw [Bool.and_eq_true, Bool.or_eq_true] at h
  refine ⟨fit_b h.1, ?_⟩
  rcases h.2 with z | z
  · exact .inl (by simpa using z)
  · split at z
    · rename_i w r
      rw [Bool.and_eq_true] at z
      exact .inr ⟨w, r, rfl, of_decide_eq_true z.1, by simpa using z.2⟩
    · cases z
theorem sml_snoc {k m : Nat} {d : PyData} : ∀ {ds : List PyData} {n : Nat}, SmL k n ds → Sm k m d → SmL k (n + m + 1) (ds ++ [d])
  | [], n, _, hd => (hd.cons (sml_nil (n := 0)) (Nat.le_refl _)).mono (Nat.le_refl _) (by omega)
  | x :: ds, n, h, hd => by
    obtain ⟨a, b, e, hx, hr⟩ := h.uncons
    exact (hx.cons (sml_snoc hr hd) (Nat.le_refl _)).mono (Nat.le_refl _) (by omega)
/-- what stands in a part -/
def partsOf : PyData → List PyData
  | .tuple ds => ds
  | _ => []
def odd1 : List PyData := [.none, .int 0, .bool true, .str "true", .list [], .tuple [], .tuple [.str "maybe"], .tuple [.none], .tuple [.int 0], .tuple [.list [.str "true"]], .tuple [.str "true", .str "x"], .tuple [.str "mark", .str "red"], .tuple [.str "mark", .str "in", .str "x"], .tuple [.str "mark", .str "red", .str "X"]]
def odd2 : List PyData := [.tuple [.str "link", .str "next", .str "x"], .tuple [.str "link", .str "next", .str "x", .int 5], .tuple [.str "same", .str "x", .str "x1", .str "x"], .tuple [.str "same", .str "", .str "x"], .tuple [.str "not", .none], .tuple [.str "and", .tuple [.str "true"]], .tuple [.str "some", .str "x"]]
def odd3 (p : PyData) : List PyData := [.tuple [.str "some", .str "u", p], .tuple [.str "all", .str "x", p], .tuple [.str "some", .str "w", .tuple [.str "all", .str "w", p]], .tuple [.str "all", .int 5, p], .tuple [.str "some", .str "not", p], .list (partsOf p), .tuple (partsOf p ++ [.none])]
def odd4 (p : PyData) : List PyData := [.tuple [.str "link", .str "in", .str "x", .str "y"], .tuple [.str "link", .str "next", .str "X", .str "y"], .tuple [.str "link", .str "", .str "x", .str "x"], .tuple [.str "link", .list [.str "next"], .str "x", .str "x"], .tuple [.str "some", .str "y", .tuple [.str "all", .str "x", p]]]
def b31 : Str := "bbbbbbbbbbbbbbbbbbbbbbbbbbbbbbb"
def odd5 : List PyData := [.tuple [.str "or", .tuple [.str "maybe"], .tuple [.str "mark", .str "", .str "x"]], .tuple [.str "and", .tuple [.str "some", .str "q", .tuple [.str "true"]], .tuple [.str "same", .str "q", .str "q"]], .tuple [.str "same", .str "x", .str b31], .tuple [.str "mark", .str "a_b", .str "x"]]
/-- a value that is put in -/
structure OddOk (q : Qn) (d : PyData) : Prop where
  ex : ∃ G : Gn, G.d = d ∧ G.ok ∧ G.dep ≤ q.dep + 2 ∧ G.sz ≤ q.sz + 5 ∧ Sm 25 12000 d
theorem sm_closed {d : PyData} (h : (PyData.canLay0 d && (decide (d.depth ≤ 25) && (decide (d.weight ≤ 12000) && (d.showable && d.intsShort 13)))) = true) : Sm 25 12000 d := by
  simp only [Bool.and_eq_true, decide_eq_true_eq] at h
  exact ⟨h.1, h.2.1, h.2.2.1, h.2.2.2.1, h.2.2.2.2⟩
theorem odd_bad {q : Qn} {d : PyData} (h : badB d = true) (s : (PyData.canLay0 d && (decide (d.depth ≤ 25) && (decide (d.weight ≤ 12000) && (d.showable && d.intsShort 13)))) = true) : OddOk q d := ⟨.bad d, rfl, bad_b h, Nat.zero_le _, by show 1 ≤ _; omega, sm_closed s⟩
theorem odds1 (q : Qn) : ∀ d ∈ odd1, OddOk q d := by
  intro d hd
  unfold odd1 at hd
  simp only [List.mem_cons, List.not_mem_nil, or_false] at hd
  rcases hd with rfl | rfl | rfl | rfl | rfl | rfl | rfl | rfl | rfl | rfl | rfl | rfl | rfl | rfl <;> exact odd_bad (by decide +kernel) (by decide +kernel)
theorem bad_none : (Gn.bad .none).ok := bad_b (by decide +kernel)
theorem odds2 (q : Qn) : ∀ d ∈ odd2, OddOk q d := by
  intro d hd
  unfold odd2 at hd
  simp only [List.mem_cons, List.not_mem_nil, or_false] at hd
  rcases hd with rfl | rfl | rfl | rfl | rfl | rfl | rfl
  · exact odd_bad (by decide +kernel) (by decide +kernel)
  · exact odd_bad (by decide +kernel) (by decide +kernel)
  · exact odd_bad (by decide +kernel) (by decide +kernel)
  · exact odd_bad (by decide +kernel) (by decide +kernel)
  · exact ⟨.nt (.bad .none), rfl, bad_none, by show 0 + 1 ≤ _; omega, by show 1 + 1 ≤ _; omega, sm_closed (by decide +kernel)⟩
  · exact odd_bad (by decide +kernel) (by decide +kernel)
  · exact odd_bad (by decide +kernel) (by decide +kernel)
theorem sm_w {x : Str} (h : (PyData.canLay0 (.str x) && decide (x.cps.size ≤ 40)) = true) : Sm 0 40 (.str x) := by
  rw [Bool.and_eq_true, decide_eq_true_eq] at h
  exact sm_str h.1 h.2
theorem sm_two {k n : Nat} {a b : Str} {p : PyData} (ha : (PyData.canLay0 (.str a) && decide (a.cps.size ≤ 40)) = true) (hb : (PyData.canLay0 (.str b) && decide (b.cps.size ≤ 40)) = true) (hp : Sm k n p) : Sm (k + 1) (n + 100) (.tuple [.str a, .str b, p]) :=
  (((sm_w ha).cons ((sm_w hb).cons (hp.cons (sml_nil (n := 0)) (Nat.le_refl _)) (Nat.zero_le _)) (Nat.zero_le _)).tuple).mono (Nat.le_refl _) (by omega)
theorem part_shape {q : Qn} : ∃ w r, q.d = .tuple (.str w :: r) ∧ lenW w = some (r.length + 1) := by
  cases q with
  | tr b => exact ⟨_, _, rfl, lenW_tr b⟩
  | mk m x => exact ⟨_, _, rfl, (show lenW "mark" = some 3 by decide +kernel)⟩
  | lk c x y => exact ⟨_, _, rfl, (show lenW "link" = some 4 by decide +kernel)⟩
  | sm x y => exact ⟨_, _, rfl, (show lenW "same" = some 3 by decide +kernel)⟩
  | nt a => exact ⟨_, _, rfl, (show lenW "not" = some 2 by decide +kernel)⟩
  | cn b a c => exact ⟨_, _, rfl, lenW_cn b⟩
  | qu b x a => exact ⟨_, _, rfl, lenW_qu b⟩
theorem odds3 {q : Qn} (ok : (Gn.ofQ q).ok) (sm : Sm 17 10000 q.d) : ∀ d ∈ odd3 q.d, OddOk q d := by
  have eqd := ofQ_d q
  have es := ofQ_sz q
  have ed := ofQ_dep q
  intro d hd
  unfold odd3 at hd
  simp only [List.mem_cons, List.not_mem_nil, or_false] at hd
  have w1 : wordB "u" = true := by decide +kernel
  have w2 : wordB "x" = true := by decide +kernel
  have w3 : wordB "w" = true := by decide +kernel
  have c : ∀ {x : Str}, (PyData.canLay0 (.str x) && decide (x.cps.size ≤ 40)) = true → True := fun _ => trivial
  obtain ⟨w, r, eq, lw⟩ := part_shape (q := q)
  rcases hd with rfl | rfl | rfl | rfl | rfl | rfl | rfl
  · exact ⟨.qu true "u" (.ofQ q), by show PyData.tuple [.str "some", .str "u", (Gn.ofQ q).d] = _; rw [eqd], ⟨w1, ok⟩, by show (Gn.ofQ q).dep + 1 ≤ _; omega, by show (Gn.ofQ q).sz + 1 ≤ _; omega, (sm_two (by decide +kernel) (by decide +kernel) sm).mono (by decide) (by decide)⟩
  · exact ⟨.qu false "x" (.ofQ q), by show PyData.tuple [.str "all", .str "x", (Gn.ofQ q).d] = _; rw [eqd], ⟨w2, ok⟩, by show (Gn.ofQ q).dep + 1 ≤ _; omega, by show (Gn.ofQ q).sz + 1 ≤ _; omega, (sm_two (by decide +kernel) (by decide +kernel) sm).mono (by decide) (by decide)⟩
  · exact ⟨.qu true "w" (.qu false "w" (.ofQ q)), by show PyData.tuple [.str "some", .str "w", .tuple [.str "all", .str "w", (Gn.ofQ q).d]] = _; rw [eqd], ⟨w3, w3, ok⟩, by show (Gn.ofQ q).dep + 1 + 1 ≤ _; omega, by show (Gn.ofQ q).sz + 1 + 1 ≤ _; omega, (sm_two (by decide +kernel) (by decide +kernel) (sm_two (by decide +kernel) (by decide +kernel) sm)).mono (by decide) (by decide)⟩
  · have s : Sm 25 12000 (.tuple [.str "all", .int 5, q.d]) := (((sm_w (x := "all") (by decide +kernel)).cons ((sm_int (i := 5) (by decide) (by decide)).cons (sm.cons (sml_nil (n := 0)) (Nat.le_refl _)) (Nat.zero_le _)) (Nat.zero_le _)).tuple).mono (by decide) (by decide)
    refine ⟨.bad _, rfl, ⟨⟨s.shaped (by decide), fun h r e => ?_, fun h r e l x hx => ?_⟩, .inr ⟨_, _, rfl, (show lenW "all" = some 3 by decide +kernel), ?_⟩⟩, Nat.zero_le _, by show 1 ≤ _; omega, s⟩
    · obtain ⟨rfl, rfl⟩ := tup_inj e; exact .inr (by decide +kernel)
    · obtain ⟨rfl, rfl⟩ := tup_inj e
      rw [show wordsQ "all" [PyData.int 5, q.d] = [.int 5] by unfold wordsQ; rw [show atomW "all" = false by decide +kernel, show quanW "all" = true by decide +kernel]; rfl] at hx
      simp at hx
    · rw [show wordsQ "all" [PyData.int 5, q.d] = [.int 5] by unfold wordsQ; rw [show atomW "all" = false by decide +kernel, show quanW "all" = true by decide +kernel]; rfl]; rfl
  · have s : Sm 25 12000 (.tuple [.str "some", .str "not", q.d]) := (sm_two (by decide +kernel) (by decide +kernel) sm).mono (by decide) (by decide)
    have ew : wordsQ "some" [PyData.str "not", q.d] = [.str "not"] := by unfold wordsQ; rw [show atomW "some" = false by decide +kernel, show quanW "some" = true by decide +kernel]; rfl
    refine ⟨.bad _, rfl, ⟨⟨s.shaped (by decide), fun h r e => ?_, fun h r e l x hx => ?_⟩, .inr ⟨_, _, rfl, (show lenW "some" = some 3 by decide +kernel), ?_⟩⟩, Nat.zero_le _, by show 1 ≤ _; omega, s⟩
    · obtain ⟨rfl, rfl⟩ := tup_inj e; exact .inr (by decide +kernel)
    · obtain ⟨rfl, rfl⟩ := tup_inj e
      rw [ew] at hx
      simp only [List.mem_cons, List.not_mem_nil, or_false, PyData.str.injEq] at hx
      rw [hx]; decide +kernel
    · rw [ew]; decide +kernel
  · rw [eq]
    show OddOk q (.list (.str w :: r))
    obtain ⟨j, hj, sl⟩ := (eq ▸ sm).untup
    have s : Sm 25 12000 (.list (.str w :: r)) := sl.list.mono (by omega) (by decide)
    exact ⟨.bad _, rfl, ⟨⟨s.shaped (by decide), fun h r e => (PyData.noConfusion e), fun h r e => (PyData.noConfusion e)⟩, .inl rfl⟩, Nat.zero_le _, by show 1 ≤ _; omega, s⟩
  · rw [eq]
    show OddOk q (.tuple (.str w :: (r ++ [.none])))
    obtain ⟨j, hj, sl⟩ := (eq ▸ sm).untup
    have s : Sm 25 12000 (.tuple (.str w :: (r ++ [.none]))) := by
      have := sml_snoc sl (sm_none.mono (Nat.zero_le j) (Nat.le_refl 0))
      exact (SmL.tuple this).mono (by omega) (by decide)
    have nl : ¬ lenW w = some ((r ++ [PyData.none]).length + 1) := by
      rw [lw, List.length_append]
      intro e
      injection e with e
      simp at e
    refine ⟨.bad _, rfl, ⟨⟨s.shaped (by decide), fun h r e => ?_, fun h r e l x hx => ?_⟩, .inl ?_⟩, Nat.zero_le _, by show 1 ≤ _; omega, s⟩
    · obtain ⟨rfl, rfl⟩ := tup_inj e; exact .inr (by rw [lw]; rfl)
    · obtain ⟨rfl, rfl⟩ := tup_inj e; exact absurd l nl
    · exact decide_eq_false nl
theorem odds4 {q : Qn} (ok : (Gn.ofQ q).ok) (sm : Sm 17 10000 q.d) : ∀ d ∈ odd4 q.d, OddOk q d := by
  have eqd := ofQ_d q
  have es := ofQ_sz q
  have ed := ofQ_dep q
  intro d hd
  unfold odd4 at hd
  simp only [List.mem_cons, List.not_mem_nil, or_false] at hd
  have w2 : wordB "x" = true := by decide +kernel
  have w3 : wordB "y" = true := by decide +kernel
  rcases hd with rfl | rfl | rfl | rfl | rfl
  · exact odd_bad (by decide +kernel) (by decide +kernel)
  · exact odd_bad (by decide +kernel) (by decide +kernel)
  · exact odd_bad (by decide +kernel) (by decide +kernel)
  · exact odd_bad (by decide +kernel) (by decide +kernel)
  · exact ⟨.qu true "y" (.qu false "x" (.ofQ q)), by show PyData.tuple [.str "some", .str "y", .tuple [.str "all", .str "x", (Gn.ofQ q).d]] = _; rw [eqd], ⟨w3, w2, ok⟩, by show (Gn.ofQ q).dep + 1 + 1 ≤ _; omega, by show (Gn.ofQ q).sz + 1 + 1 ≤ _; omega, (sm_two (by decide +kernel) (by decide +kernel) (sm_two (by decide +kernel) (by decide +kernel) sm)).mono (by decide) (by decide)⟩
theorem odds5 (q : Qn) : ∀ d ∈ odd5, OddOk q d := by
  intro d hd
  unfold odd5 at hd
  simp only [List.mem_cons, List.not_mem_nil, or_false] at hd
  rcases hd with rfl | rfl | rfl | rfl
  · exact ⟨.cn false (.bad (.tuple [.str "maybe"])) (.bad (.tuple [.str "mark", .str "", .str "x"])), rfl, ⟨bad_b (by decide +kernel), bad_b (by decide +kernel)⟩, by show max 0 0 + 1 ≤ _; omega, by show 1 + 1 + 1 ≤ _; omega, sm_closed (by decide +kernel)⟩
  · exact ⟨.cn true (.qu true "q" (.tr true)) (.sm "q" "q"), rfl, ⟨⟨(show wordB "q" = true by decide +kernel), True.intro⟩, (show wordB "q" = true by decide +kernel), (show wordB "q" = true by decide +kernel)⟩, by show max (0 + 1) 0 + 1 ≤ _; omega, by show 1 + 1 + 1 + 1 ≤ _; omega, sm_closed (by decide +kernel)⟩
  · exact odd_bad (by decide +kernel) (by decide +kernel)
  · exact odd_bad (by decide +kernel) (by decide +kernel)
def oddD (p : PyData) : List PyData := odd1 ++ odd2 ++ odd3 p ++ odd4 p ++ odd5
theorem odds {q : Qn} (ok : (Gn.ofQ q).ok) (sm : Sm 17 10000 q.d) : ∀ d ∈ oddD q.d, OddOk q d := by
  intro d hd
  unfold oddD at hd
  rcases List.mem_append.mp hd with hd | hd
  · rcases List.mem_append.mp hd with hd | hd
    · rcases List.mem_append.mp hd with hd | hd
      · rcases List.mem_append.mp hd with hd | hd
        · exact odds1 q d hd
        · exact odds2 q d hd
      · exact odds3 ok sm d hd
    · exact odds4 ok sm d hd
  · exact odds5 q d hd
end DQ

set_option Elab.async false
set_option linter.all false
set_option maxRecDepth 100000
namespace DQ
open PySem PySem.Spec PyProof.Rows L2
section
variable {X : Cx}
/-- a text times an int -/
def rMulS : R2 := fun x y H Q => ∃ (z : Str) (n : Int), x = .str z ∧ y = .int n ∧ PySem.MulOk z n ∧ Q (.str (PySem.Txt.mul z n)) H
theorem op_mulS : OpR X (binaryOp .Mult) rMulS := by
  intro pins s σ H x y v u Q I rx ry h
  obtain ⟨z, n, rfl, rfl, ok, q⟩ := h
  obtain ⟨t1, rfl⟩ := rx
  obtain ⟨t2, rfl⟩ := ry
  exact PySem.SB.mul ok fun t' k => ⟨.str _, H, I.tok _, ⟨t', rfl⟩, q⟩
end
end DQ

set_option Elab.async false
set_option linter.all false
set_option maxRecDepth 100000
set_option maxHeartbeats 2000000
namespace DQ
open PySem PySem.Spec PyProof.Rows L2
/-! ### _law_odd -/
abbrev sOdd : Stmt := topS 48
abbrev NOd : List Str := ["generator", "part", "found"]
theorem scOdd : FnScope NOd ["generator", "part"] (defScope sOdd) := ⟨rfl, rfl, rfl, by decide +kernel, rfl, by decide +kernel, by decide +kernel⟩
section
variable {K : PySem.W.Frag} {g : Addr} {pd : PyData} {v : V}
/-- the part stands in slot 1, apart from the generator -/
def Gam (K : PySem.W.Frag) (g : Addr) (v : V) (pd : PyData) (σ : L2.St) (H : Hp) : Prop := H g ≠ none ∧ σ[1]? = some (some v) ∧ Dp K (off H g) v pd
theorem Gam.same {σ : L2.St} {H H' : Hp} (s : Same H H') (h : Gam K g v pd σ H) : Gam K g v pd σ H' := ⟨on_same s h.1, h.2.1, dp_same (off_same s) _ _ h.2.2⟩
/-- what is written gives these data -/
def GD (K : PySem.W.Frag) (g : Addr) (v : V) (pd : PyData) (te : TE) (d : PyData) : Prop := ∀ σ H (Q : VK), Gam K g v pd σ H → (∀ y H', Same H H' → Dp K (off H' g) y d → Q y H') → te σ H Q
def GDs (K : PySem.W.Frag) (g : Addr) (v : V) (pd : PyData) (ta : TA) (ds : List PyData) : Prop := ∀ σ H (Q : List V → Hp → Prop), Gam K g v pd σ H → (∀ ys H', Same H H' → DpAll K (off H' g) ys ds → Q ys H') → ta σ H Q
theorem gd_non : GD K g v pd (tC .non) .none := fun _ H _ _ q => q _ H (Same.refl _) .non
theorem gd_bl (b : Bool) : GD K g v pd (tC (.bl b)) (.bool b) := fun _ H _ _ q => q _ H (Same.refl _) (.bl b)
theorem gd_int (i : Int) : GD K g v pd (tC (.int i)) (.int i) := fun _ H _ _ q => q _ H (Same.refl _) (.int i)
theorem gd_str (x : Str) : GD K g v pd (tC (.str x)) (.str x) := fun _ H _ _ q => q _ H (Same.refl _) (.str x)
theorem gd_part : GD K g v pd (tVar 1) pd := fun _ H _ h q => ⟨v, h.2.1, q _ H (Same.refl _) h.2.2⟩
theorem gds_nil : GDs K g v pd tNil [] := fun _ H _ _ q => q _ H (Same.refl _) .nil
theorem gds_cons {te : TE} {ta : TA} {d : PyData} {ds : List PyData} (h1 : GD K g v pd te d) (h2 : GDs K g v pd ta ds) : GDs K g v pd (tCons te ta) (d :: ds) := fun σ H Q h q => h1 σ H _ h fun y H1 s1 d1 => h2 σ H1 _ (h.same s1) fun ys H2 s2 d2 => q _ H2 (s1.trans s2) (.cons (dp_same (off_same s2) _ _ d1) d2)
theorem gd_tup {ta : TA} {ds : List PyData} (h1 : GDs K g v pd ta ds) (few : ds.length ≤ 100 := by exact Nat.le_of_ble_eq_true rfl) : GD K g v pd (tTup ta) (.tuple ds) := fun σ H Q h q => h1 σ H _ h fun ys H1 s1 d1 => ⟨by rw [dpAll_len d1, sizeLine_eq]; omega, fun p np => q _ _ (s1.trans (same_new np)) (.tup (new_off (on_same s1 h.1) np) (dpAll_same (off_same (same_new np)) _ _ d1))⟩
theorem gd_lst {ta : TA} {ds : List PyData} (h1 : GDs K g v pd ta ds) (few : ds.length ≤ 100 := by exact Nat.le_of_ble_eq_true rfl) : GD K g v pd (tLst ta) (.list ds) := fun σ H Q h q => h1 σ H _ h fun ys H1 s1 d1 => ⟨by rw [dpAll_len d1, sizeLine_eq]; omega, fun p np => q _ _ (s1.trans (same_new np)) (.lst (SqL.of (by rw [off_at (ne_off (on_same s1 h.1) np)]; exact upd_same)) (dpAll_same (off_same (same_new np)) _ _ d1))⟩
theorem gd_list {ds : List PyData} (few : ds.length ≤ 100) : GD K g v (.tuple ds) (tCB (rLstOf K) (tCons (tVar 1) tNil)) (.list ds) := fun σ H Q h q => by
  obtain ⟨hg, hs, hd⟩ := h
  cases hd with
  | @tup a xs _ hx ha =>
  refine ⟨_, hs, nil_read ⟨a, xs, rfl, .inr (sqT_same off_le hx), fun p np => q _ _ (same_new np) (.lst (SqL.of (by rw [off_at (ne_off hg np)]; exact upd_same)) (dpAll_same (off_same (same_new np)) _ _ ha))⟩⟩
theorem gd_more {ds : List PyData} (few : ds.length ≤ 100) : GD K g v (.tuple ds) (tOp (rCatA K) (tVar 1) (tTup (tCons (tC .non) tNil))) (.tuple (ds ++ [.none])) := fun σ H Q h q => by
  obtain ⟨hg, hs, hd⟩ := h
  cases hd with
  | @tup a xs _ hx ha =>
  have l := dpAll_len ha
  refine ⟨_, hs, by show 1 ≤ sizeLine; decide, fun t nt => ?_⟩
  have st := same_new nt (o := .tup [V.non])
  have et : SqT K (off (L2.upd H t (.tup [V.non])) g) t [V.non] := new_off hg nt
  have hg1 := on_same st hg
  have hx1 := sqT_same (off_same st (g := g)) hx
  have ha1 := dpAll_same (off_same st (g := g)) _ _ ha
  generalize L2.upd H t (.tup [V.non]) = H1 at *
  have full := dpAll_app ha1 (.cons (.non) .nil)
  refine ⟨a, t, xs, [V.non], rfl, rfl, sqT_same off_le hx1, sqT_same off_le et, by show _ + 1 ≤ _; rw [sizeLine_eq]; omega, fun e => ?_, (fun _ e => by cases e), fun _ _ p np => ?_⟩
  · subst e
    exact q _ _ st (.tup et full)
  · exact q _ _ (st.trans (same_new np)) (.tup (new_off hg1 np) (dpAll_same (off_same (same_new np)) _ _ full))
theorem gd_b31 : GD K g v pd (tOp rMulS (tC (.str "b")) (tC (.int 31))) (.str b31) := fun _ H _ _ q => ⟨"b", 31, rfl, rfl, by unfold PySem.MulOk; decide +kernel, q _ H (Same.refl _) (by rw [show PySem.Txt.mul "b" 31 = b31 by decide +kernel]; exact .str _)⟩
end
section
variable {P : Program} {w : World} {K : PySem.W.Frag} {mg : Str → Option Value} {base : Heap}
def spOdd (K : PySem.W.Frag) : Sp := fun vs H Q _ => ∃ (g : Addr) (v : V) (q : Qn) (n : Int), vs = [.ref g, v] ∧ Gen H g n ∧ n + 3 ≤ 1073741824 ∧ Dp K (off H g) v q.d ∧ ∀ x d H', d ∈ oddD q.d → Keep g H H' → Gen H' g (n + 3) → Dp K (off H' g) x d → Q x H'
/-- the values so far -/
def OddAt (K : PySem.W.Frag) (g l : Addr) (ds : List PyData) (H : Hp) : Prop := l ≠ g ∧ ∃ xs, H l = some (.lst xs) ∧ DpAll K (off H g) xs ds
theorem lst_new {g : Addr} {v : V} {pd : PyData} {σ : L2.St} {H : Hp} {Q : VK} {es : List PyData} {ta : TA} (ga : Gam K g v pd σ H) (h : GDs K g v pd ta es) (few : es.length ≤ 1000) (q : ∀ p H', Same H H' → OddAt K g p es H' → Q (.ref p) H') : tLst ta σ H Q := h σ H _ ga fun ys H1 s1 d1 => ⟨by rw [dpAll_len d1, sizeLine_eq]; omega, fun p np => q p _ (s1.trans (same_new np)) ⟨ne_off (on_same s1 ga.1) np, ys, upd_same, dpAll_same (off_same (same_new np)) _ _ d1⟩⟩
theorem odd_more {g : Addr} {v : V} {pd : PyData} {σ : L2.St} {H : Hp} {Q : VK} {l : Addr} {ds es : List PyData} {ta : TA} (ga : Gam K g v pd σ H) (h2 : σ[2]? = some (some (.ref l))) (at_ : OddAt K g l ds H) (h : GDs K g v pd ta es) (few : ds.length + es.length ≤ 1000) (q : ∀ p H', Same H H' → OddAt K g p (ds ++ es) H' → Q (.ref p) H') : tOp rCat (tVar 2) (tLst ta) σ H Q := by
  obtain ⟨nl, xs, el, al⟩ := at_
  refine ⟨_, h2, h σ H _ ga fun ys H1 s1 d1 => ⟨by rw [dpAll_len d1, sizeLine_eq]; omega, fun p np => ?_⟩⟩
  have sp := same_new np (o := .lst ys)
  have hg1 := on_same s1 ga.1
  have lx := dpAll_len al
  have ly := dpAll_len d1
  have ne : l ≠ p := ne_of_none (s1 _ _ el) np
  refine ⟨l, p, xs, ys, rfl, rfl, sp _ _ (s1 _ _ el), upd_same, by rw [lx, ly, sizeLine_eq]; omega, fun r nr => ?_⟩
  have sr := same_new nr (o := .lst (xs ++ ys))
  have hg2 := on_same sp hg1
  exact q r _ ((s1.trans sp).trans sr) ⟨ne_off hg2 nr, _, upd_same, dpAll_app (dpAll_same (off_same ((s1.trans sp).trans sr)) _ _ al) (dpAll_same (off_same (sp.trans sr)) _ _ d1)⟩
theorem ok_odd {f fr : Addr} {fd fdr : FuncData} (F : Fun K "_law_odd" "_law_odd" sOdd f fd) (GR : FnOk P w K mg base CX0 2 fr fdr ["generator", "bound"] spRandom) (bR : Binds K fdr ["generator", "bound"] []) (kR : PySem.W.keepIn K (.ref fr) = true) (mR : mg "_law_random" = some (.ref fr)) (mList : mg "list" = none) (mLen : mg "len" = none) : FnOk P w K mg base CX0 3 f fd ["generator", "part"] (spOdd K) := by
  refine F.ok scOdd (fun vs H Q E h => ?_) (fun cdv A outer s H vs Q E hr h => ?_)
  · obtain ⟨_, _, _, _, rfl, _⟩ := h
    rfl
  obtain ⟨g, v, qn, n, rfl, G, hn, hd, q⟩ := h
  have nd := scOdd.nd
  refine ⟨_, (pss_cons (ps_set (i := 2) nd rfl (.inl rfl) (pe_lst (pa_cons pe_non (pa_cons pe_int (pa_cons pe_bl (pa_cons pe_str (pa_cons (pe_lst pa_nil) (pa_cons (pe_tup pa_nil) (pa_cons (pe_tup (pa_cons pe_str pa_nil)) (pa_cons (pe_tup (pa_cons pe_non pa_nil)) (pa_cons (pe_tup (pa_cons pe_int pa_nil)) (pa_cons (pe_tup (pa_cons (pe_lst (pa_cons pe_str pa_nil)) pa_nil)) (pa_cons (pe_tup (pa_cons pe_str (pa_cons pe_str pa_nil))) (pa_cons (pe_tup (pa_cons pe_str (pa_cons pe_str pa_nil))) (pa_cons (pe_tup (pa_cons pe_str (pa_cons pe_str (pa_cons pe_str pa_nil)))) (pa_cons (pe_tup (pa_cons pe_str (pa_cons pe_str (pa_cons pe_str pa_nil)))) pa_nil))))))))))))))))
     (pss_cons (ps_set (i := 2) nd rfl (.inl rfl) (pe_op op_cat (pv 2) (pe_lst (pa_cons (pe_tup (pa_cons pe_str (pa_cons pe_str (pa_cons pe_str pa_nil)))) (pa_cons (pe_tup (pa_cons pe_str (pa_cons pe_str (pa_cons pe_str (pa_cons pe_int pa_nil))))) (pa_cons (pe_tup (pa_cons pe_str (pa_cons pe_str (pa_cons pe_str (pa_cons pe_str pa_nil))))) (pa_cons (pe_tup (pa_cons pe_str (pa_cons pe_str (pa_cons pe_str pa_nil)))) (pa_cons (pe_tup (pa_cons pe_str (pa_cons pe_non pa_nil))) (pa_cons (pe_tup (pa_cons pe_str (pa_cons (pe_tup (pa_cons pe_str pa_nil)) pa_nil))) (pa_cons (pe_tup (pa_cons pe_str (pa_cons pe_str pa_nil))) pa_nil))))))))))
     (pss_cons (ps_set (i := 2) nd rfl (.inl rfl) (pe_op op_cat (pv 2) (pe_lst (pa_cons (pe_tup (pa_cons pe_str (pa_cons pe_str (pa_cons (pv 1) pa_nil)))) (pa_cons (pe_tup (pa_cons pe_str (pa_cons pe_str (pa_cons (pv 1) pa_nil)))) (pa_cons (pe_tup (pa_cons pe_str (pa_cons pe_str (pa_cons (pe_tup (pa_cons pe_str (pa_cons pe_str (pa_cons (pv 1) pa_nil)))) pa_nil)))) (pa_cons (pe_tup (pa_cons pe_str (pa_cons pe_int (pa_cons (pv 1) pa_nil)))) (pa_cons (pe_tup (pa_cons pe_str (pa_cons pe_str (pa_cons (pv 1) pa_nil)))) (pa_cons (pe_callTy (r := rLstOf K) call_list_of (by rfl) mList (by decide +kernel) (pa_cons (pv 1) pa_nil)) (pa_cons (pe_op (r := rCatA K) op_catA (pv 1) (pe_tup (pa_cons pe_non pa_nil))) pa_nil))))))))))
     (pss_cons (ps_set (i := 2) nd rfl (.inl rfl) (pe_op op_cat (pv 2) (pe_lst (pa_cons (pe_tup (pa_cons pe_str (pa_cons pe_str (pa_cons pe_str (pa_cons pe_str pa_nil))))) (pa_cons (pe_tup (pa_cons pe_str (pa_cons pe_str (pa_cons pe_str (pa_cons pe_str pa_nil))))) (pa_cons (pe_tup (pa_cons pe_str (pa_cons pe_str (pa_cons pe_str (pa_cons pe_str pa_nil))))) (pa_cons (pe_tup (pa_cons pe_str (pa_cons (pe_lst (pa_cons pe_str pa_nil)) (pa_cons pe_str (pa_cons pe_str pa_nil))))) (pa_cons (pe_tup (pa_cons pe_str (pa_cons pe_str (pa_cons (pe_tup (pa_cons pe_str (pa_cons pe_str (pa_cons (pv 1) pa_nil)))) pa_nil)))) pa_nil))))))))
     (pss_cons (ps_set (i := 2) nd rfl (.inl rfl) (pe_op op_cat (pv 2) (pe_lst (pa_cons (pe_tup (pa_cons pe_str (pa_cons (pe_tup (pa_cons pe_str pa_nil)) (pa_cons (pe_tup (pa_cons pe_str (pa_cons pe_str (pa_cons pe_str pa_nil)))) pa_nil)))) (pa_cons (pe_tup (pa_cons pe_str (pa_cons (pe_tup (pa_cons pe_str (pa_cons pe_str (pa_cons (pe_tup (pa_cons pe_str pa_nil)) pa_nil)))) (pa_cons (pe_tup (pa_cons pe_str (pa_cons pe_str (pa_cons pe_str pa_nil)))) pa_nil)))) (pa_cons (pe_tup (pa_cons pe_str (pa_cons pe_str (pa_cons (pe_op op_mulS pe_str pe_int) pa_nil)))) (pa_cons (pe_tup (pa_cons pe_str (pa_cons pe_str (pa_cons pe_str pa_nil)))) pa_nil)))))))
     (pss_one (ps_ret (pe_ix (r := rIxL K) ix_list (pv 2) (pe_call GR (hr.mono (by decide)) rfl mR kR bR .nil pass0 (pa_cons (pv 0) (pa_cons (pe_callB (r := rLenQ K) call_len_seq (by rfl) mLen PySem.boot_len (pa_cons (pv 2) pa_nil)) pa_nil))) (fun _ _ => rfl))))))))), ?_⟩
  obtain ⟨wd, r, eq, lw⟩ := part_shape (q := qn)
  have fewP : (PyData.str wd :: r).length ≤ 100 := by have := lenW_le lw; rw [List.length_cons]; omega
  rw [eq] at hd q
  have hg : H g ≠ none := by obtain ⟨_, _, _, e, _⟩ := G; rw [e]; exact Option.some_ne_none _
  have ga : Gam K g v (.tuple (.str wd :: r)) [some (V.ref g), some v, none] H := ⟨hg, rfl, hd⟩
  have gal : ∀ {l : Addr} {H' : Hp}, Same H H' → Gam K g v (.tuple (.str wd :: r)) [some (V.ref g), some v, some (.ref l)] H' := fun {l H'} s => ⟨on_same s hg, rfl, dp_same (off_same s) _ _ hd⟩
  refine seq_te (fun y H' => ∃ l, y = .ref l ∧ Same H H' ∧ OddAt K g l odd1 H') (fun R hR => ?_) fun y H1 ⟨l1, ey, s1, a1⟩ => ?_
  · exact lst_new ga (es := odd1) (by repeat first | exact gds_nil | refine gds_cons ?_ ?_ | exact gd_non | exact gd_bl _ | exact gd_int _ | exact gd_str _ | exact gd_part | exact gd_b31 | exact gd_list fewP | exact gd_more fewP | refine gd_tup ?_ | refine gd_lst ?_) (by decide) fun p H1 s1 a1 => hR _ _ ⟨p, rfl, s1, a1⟩
  subst ey
  show tSeq (tAsg (tOp rCat _ _) _) _ _ [some (V.ref g), some v, some (.ref l1)] H1
  refine seq_te (fun y H' => ∃ l, y = .ref l ∧ Same H H' ∧ OddAt K g l (odd1 ++ odd2) H') (fun R hR => odd_more (gal s1) rfl a1 (es := odd2) (by repeat first | exact gds_nil | refine gds_cons ?_ ?_ | exact gd_non | exact gd_bl _ | exact gd_int _ | exact gd_str _ | exact gd_part | exact gd_b31 | exact gd_list fewP | exact gd_more fewP | refine gd_tup ?_ | refine gd_lst ?_) (by simp [odd1, odd2, odd3, odd4, odd5]) fun p H' s' a' => hR _ _ ⟨p, rfl, s1.trans s', a'⟩) fun y H2 ⟨l2, ey, s2, a2⟩ => ?_
  subst ey
  show tSeq (tAsg (tOp rCat _ _) _) _ _ [some (V.ref g), some v, some (.ref l2)] H2
  refine seq_te (fun y H' => ∃ l, y = .ref l ∧ Same H H' ∧ OddAt K g l (odd1 ++ odd2 ++ odd3 (.tuple (.str wd :: r))) H') (fun R hR => odd_more (gal s2) rfl a2 (es := odd3 (.tuple (.str wd :: r))) (by repeat first | exact gds_nil | refine gds_cons ?_ ?_ | exact gd_non | exact gd_bl _ | exact gd_int _ | exact gd_str _ | exact gd_part | exact gd_b31 | exact gd_list fewP | exact gd_more fewP | refine gd_tup ?_ | refine gd_lst ?_) (by simp [odd1, odd2, odd3, odd4, odd5]) fun p H' s' a' => hR _ _ ⟨p, rfl, s2.trans s', a'⟩) fun y H3 ⟨l3, ey, s3, a3⟩ => ?_
  subst ey
  show tSeq (tAsg (tOp rCat _ _) _) _ _ [some (V.ref g), some v, some (.ref l3)] H3
  refine seq_te (fun y H' => ∃ l, y = .ref l ∧ Same H H' ∧ OddAt K g l (odd1 ++ odd2 ++ odd3 (.tuple (.str wd :: r)) ++ odd4 (.tuple (.str wd :: r))) H') (fun R hR => odd_more (gal s3) rfl a3 (es := odd4 (.tuple (.str wd :: r))) (by repeat first | exact gds_nil | refine gds_cons ?_ ?_ | exact gd_non | exact gd_bl _ | exact gd_int _ | exact gd_str _ | exact gd_part | exact gd_b31 | exact gd_list fewP | exact gd_more fewP | refine gd_tup ?_ | refine gd_lst ?_) (by simp [odd1, odd2, odd3, odd4, odd5]) fun p H' s' a' => hR _ _ ⟨p, rfl, s3.trans s', a'⟩) fun y H4 ⟨l4, ey, s4, a4⟩ => ?_
  subst ey
  show tSeq (tAsg (tOp rCat _ _) _) _ _ [some (V.ref g), some v, some (.ref l4)] H4
  refine seq_te (fun y H' => ∃ l, y = .ref l ∧ Same H H' ∧ OddAt K g l (odd1 ++ odd2 ++ odd3 (.tuple (.str wd :: r)) ++ odd4 (.tuple (.str wd :: r)) ++ odd5) H') (fun R hR => odd_more (gal s4) rfl a4 (es := odd5) (by repeat first | exact gds_nil | refine gds_cons ?_ ?_ | exact gd_non | exact gd_bl _ | exact gd_int _ | exact gd_str _ | exact gd_part | exact gd_b31 | exact gd_list fewP | exact gd_more fewP | refine gd_tup ?_ | refine gd_lst ?_) (by simp [odd1, odd2, odd3, odd4, odd5]) fun p H' s' a' => hR _ _ ⟨p, rfl, s4.trans s', a'⟩) fun y H5 ⟨l5, ey, s5, a5⟩ => ?_
  subst ey
  show tRet _ _ [some (V.ref g), some v, some (.ref l5)] H5
  obtain ⟨nl, xs, el, al⟩ := a5
  have lx := dpAll_len al
  have l38 : (odd1 ++ odd2 ++ odd3 (.tuple (.str wd :: r)) ++ odd4 (.tuple (.str wd :: r)) ++ odd5).length = 37 := by simp [odd1, odd2, odd3, odd4, odd5]
  refine ⟨_, rfl, .ref g, rfl, _, rfl, l5, _, rfl, .inl (SqL.of el), nil_read ?_⟩
  rw [lx, l38]
  refine ⟨g, 37, n, rfl, G.same s5, by decide, by decide, hn, fun k H6 r0 r1 G6 bt => ?_⟩
  obtain ⟨j, rfl⟩ : ∃ j : Nat, k = (j : Int) := ⟨k.toNat, by omega⟩
  have hj : j < xs.length := by omega
  have ej : xs[j]? = some xs[j] := List.getElem?_eq_getElem hj
  obtain ⟨d, hdj, dj⟩ := dpAll_at al ej
  have kk := (Keep.of_same (g := g) s5).trans (Keep.of_but bt)
  have e6 : H6 l5 = some (.lst xs) := (bt l5 nl).trans el
  exact ⟨l5, _, _, _, rfl, rfl, SqL.of e6, atI_nat ej, q _ d H6 (List.mem_of_getElem? hdj) kk G6 (dp_same (off_but (Keep.of_but bt)) _ _ dj)⟩
end
end DQ

set_option Elab.async false
set_option linter.all false
set_option maxRecDepth 100000
set_option maxHeartbeats 1000000
namespace DQ
open PySem PySem.Spec PyProof.Rows L2
/-! ### _law_written_right -/
abbrev sWritten : Stmt := topS 50
abbrev NWr : List Str := ["both", "beside", "told"]
theorem scWritten : FnScope NWr [] (defScope sWritten) := ⟨rfl, rfl, rfl, by decide +kernel, rfl, by decide +kernel, by decide +kernel⟩
def okB : Gn → Bool
  | .bad d => badB d
  | .tr _ => true
  | .mk m x => wordB m && wordB x
  | .lk c x y => wordB c && (wordB x && wordB y)
  | .sm x y => wordB x && wordB y
  | .nt a => okB a
  | .cn _ a c => okB a && okB c
  | .qu _ x a => wordB x && okB a
theorem ok_b : ∀ {g : Gn}, okB g = true → g.ok
  | .bad _, h => bad_b h
  | .tr _, _ => True.intro
  | .mk _ _, h => by simpa [okB, Gn.ok] using h
  | .lk _ _ _, h => by simpa [okB, Gn.ok] using h
  | .sm _ _, h => by simpa [okB, Gn.ok] using h
  | .nt a, h => ok_b (g := a) h
  | .cn _ a c, h => by
    have h : (okB a && okB c) = true := h
    rw [Bool.and_eq_true] at h
    exact ⟨ok_b h.1, ok_b h.2⟩
  | .qu _ x a, h => by
    have h : (wordB x && okB a) = true := h
    rw [Bool.and_eq_true] at h
    exact ⟨h.1, ok_b h.2⟩
def goodB (g : Gn) : Bool := okB g && (SeqAt.shaped g.d && decide (g.sz ≤ 1000))
theorem good_b {g : Gn} (h : goodB g = true) : g.good ∧ g.sz ≤ 1000 := by
  unfold goodB at h
  rw [Bool.and_eq_true, Bool.and_eq_true] at h
  exact ⟨⟨ok_b h.1, h.2.1⟩, of_decide_eq_true h.2.2⟩
section
variable {K : PySem.W.Frag} {σ : L2.St} {H : Hp}
/-- what is written gives these data, now and later -/
def Gives (K : PySem.W.Frag) (σ : L2.St) (H : Hp) (te : TE) (d : PyData) : Prop := ∀ H1, Same H H1 → ∀ Q : VK, (∀ y H', Same H1 H' → Dp K H' y d → Q y H') → te σ H1 Q
def GivesAll (K : PySem.W.Frag) (σ : L2.St) (H : Hp) (ta : TA) (ds : List PyData) : Prop := ∀ H1, Same H H1 → ∀ Q : List V → Hp → Prop, (∀ ys H', Same H1 H' → DpAll K H' ys ds → Q ys H') → ta σ H1 Q
theorem Gives.later {te : TE} {d : PyData} {H' : Hp} (h : Gives K σ H te d) (s : Same H H') : Gives K σ H' te d := fun H1 s1 Q q => h H1 (s.trans s1) Q q
theorem gv_non : Gives K σ H (tC .non) .none := fun H1 _ _ q => q _ H1 (Same.refl _) .non
theorem gv_int (i : Int) : Gives K σ H (tC (.int i)) (.int i) := fun H1 _ _ q => q _ H1 (Same.refl _) (.int i)
theorem gv_str (x : Str) : Gives K σ H (tC (.str x)) (.str x) := fun H1 _ _ q => q _ H1 (Same.refl _) (.str x)
theorem gv_var {i : Nat} {v : V} {d : PyData} (h : σ[i]? = some (some v)) (hd : Dp K H v d) : Gives K σ H (tVar i) d := fun H1 s _ q => ⟨v, h, q _ H1 (Same.refl _) (dp_same s _ _ hd)⟩
theorem gv_ix {i k : Nat} {v : V} {d : PyData} {ds : List PyData} (h : σ[i]? = some (some v)) (hd : Dp K H v (.tuple ds)) (hk : ds[k]? = some d) : Gives K σ H (tOp (rIxT K) (tVar i) (tC (.int (k : Nat)))) d := fun H1 s _ q => by
  cases dp_same s _ _ hd with
  | @tup a xs _ hx ha =>
  have lt : k < xs.length := by
    have := dpAll_len ha
    have := (List.getElem?_eq_some_iff.mp hk).1
    omega
  have e : xs[k]? = some xs[k] := List.getElem?_eq_getElem lt
  exact ⟨_, h, a, xs, _, _, rfl, rfl, hx, atI_nat e, q _ H1 (Same.refl _) (dpAll_get ha e hk)⟩
theorem gvs_nil : GivesAll K σ H tNil [] := fun H1 _ _ q => q _ H1 (Same.refl _) .nil
theorem gvs_cons {te : TE} {ta : TA} {d : PyData} {ds : List PyData} (h1 : Gives K σ H te d) (h2 : GivesAll K σ H ta ds) : GivesAll K σ H (tCons te ta) (d :: ds) := fun H1 s Q q => h1 H1 s _ fun y H2 s2 d2 => h2 H2 (s.trans s2) _ fun ys H3 s3 d3 => q _ H3 (s2.trans s3) (.cons (dp_same s3 _ _ d2) d3)
theorem gv_tup {ta : TA} {ds : List PyData} (h1 : GivesAll K σ H ta ds) (few : ds.length ≤ 100 := by exact Nat.le_of_ble_eq_true rfl) : Gives K σ H (tTup ta) (.tuple ds) := fun H1 s Q q => h1 H1 s _ fun ys H2 s2 d2 => ⟨by rw [dpAll_len d2, sizeLine_eq]; omega, fun p np => q _ _ (s2.trans (same_new np)) (.tup (SqT.of upd_same) (dpAll_same (same_new np) _ _ d2))⟩
theorem gv_lst {ta : TA} {ds : List PyData} (h1 : GivesAll K σ H ta ds) (few : ds.length ≤ 100 := by exact Nat.le_of_ble_eq_true rfl) : Gives K σ H (tLst ta) (.list ds) := fun H1 s Q q => h1 H1 s _ fun ys H2 s2 d2 => ⟨by rw [dpAll_len d2, sizeLine_eq]; omega, fun p np => q _ _ (s2.trans (same_new np)) (.lst (SqL.of upd_same) (dpAll_same (same_new np) _ _ d2))⟩
/-- first_wrong of what is written -/
theorem gv_first {te : TE} {g : Gn} {r : Option (List Nat × Str)} (h : Gives K σ H te g.d) (ok : goodB g = true) (due : dueG g = r) : Gives K σ H (tCall (spFirst K) [] E0 (tCons te tNil)) (wrongD r) := fun H1 s Q q => h H1 s _ fun y H2 s2 d2 => nil_read (show spFirst K [y] H2 Q E0 from ⟨y, g, rfl, d2, (good_b ok).1, (good_b ok).2, fun x H3 s3 d3 => q x H3 (s2.trans s3) (by rw [← due]; exact d3)⟩)
/-- a call on a question -/
theorem gv_ask {te : TE} {g : Gn} {e : PyData} {r : Gn → V → Hp → Hp → Prop} (h : Gives K σ H te g.d) (ok : goodB g = true) (due : dueG g = none) (back : ∀ x J J', r g x J J' → Same J J' ∧ Dp K J' x e) : Gives K σ H (tCall (spAskQ K r) [] E0 (tCons te tNil)) e := fun H1 s Q q => h H1 s _ fun y H2 s2 d2 => nil_read (show spAskQ K r [y] H2 Q E0 from ⟨y, g, rfl, d2, (good_b ok).1, (good_b ok).2, due, fun x H3 h3 => let b := back x H2 H3 h3; q x H3 (s2.trans b.1) b.2⟩)
theorem gv_arg {te : TE} {d : PyData} {sp : Sp} {Q : VK} (h : Gives K σ H te d) (q : ∀ y H', Same H H' → Dp K H' y d → sp [y] H' Q E0) : tCall sp [] E0 (tCons te tNil) σ H Q := h H (Same.refl _) _ fun y H' s d => nil_read (q y H' s d)
theorem gv_ne {ta tb : TE} {d e : PyData} {R : Bool → Hp → Prop} (ha : Gives K σ H ta d) (hb : Gives K σ H tb e) (sh : (SeqAt.shaped d && SeqAt.shaped e) = true) (q : ∀ H', Same H H' → R (!PyData.eqv d e) H') : tTest (tOp (rNeD K) ta tb) σ H R := ha H (Same.refl _) _ fun x H1 s1 d1 => hb H1 s1 _ fun y H2 s2 d2 => by
  rw [Bool.and_eq_true] at sh
  exact ⟨d, e, dp_same s2 _ _ d1, d2, sh.1, sh.2, _, rfl, q H2 (s1.trans s2)⟩
theorem gv_eq {ta tb : TE} {d e : PyData} {R : VK} (ha : Gives K σ H ta d) (hb : Gives K σ H tb e) (sh : (SeqAt.shaped d && SeqAt.shaped e) = true) (q : ∀ H', Same H H' → R (.bl (PyData.eqv d e)) H') : tOp (rEqD K) ta tb σ H R := ha H (Same.refl _) _ fun x H1 s1 d1 => hb H1 s1 _ fun y H2 s2 d2 => by
  rw [Bool.and_eq_true] at sh
  exact ⟨d, e, dp_same s2 _ _ d1, d2, sh.1, sh.2, q H2 (s1.trans s2)⟩
end
def wq1 : Gn := .cn true (.qu false "y" (.tr true)) (.cn true (.qu true "x" (.tr true)) (.lk "next" "x" "y"))
def wq2 : Gn := .cn true (.nt (.qu true "x" (.tr true))) (.cn true (.qu true "y" (.tr true)) (.lk "next" "x" "y"))
def wq3 : Gn := .qu true "w" (.qu false "w" (.bad (.tuple [.str "maybe"])))
def wq4 : Gn := .cn false (.qu true "x" (.mk "red" "x")) (.qu false "y" (.qu true "z" (.sm "y" "z")))
def wq5 : Gn := .cn true (.qu true "x" (.mk "red" "x")) (.qu true "y" (.mk "red" "y"))
def wq6 : Gn := .nt (.cn true wq4 (.qu false "y" (.qu true "z" (.sm "y" "z"))))
def wq7 : Gn := .cn true (.mk "a" "x") (.lk "a" "x" "x")
def wq8 : Gn := .lk "next" "x" "b7"
def wq9 : Gn := .sm "x9" "x10"
section
variable {P : Program} {w : World} {K : PySem.W.Frag} {mg : Str → Option Value} {base : Heap}
def spWritten : Sp := fun vs H Q _ => vs = [] ∧ ∀ H', Same H H' → Q (.bl true) H'
theorem ok_written {f fF fI fD fS fN : Addr} {fd dF dI dD dS dN : FuncData} (F : Fun K "_law_written_right" "_law_written_right" sWritten f fd)
    (GF : FnOk P w K mg base CX0 5 fF dF ["value"] (spFirst K)) (bF : Binds K dF ["value"] []) (kF : PySem.W.keepIn K (.ref fF) = true) (mF : mg "first_wrong" = some (.ref fF))
    (GI : FnOk P w K mg base CX0 6 fI dI ["value"] (spIsQ K)) (bI : Binds K dI ["value"] []) (kI : PySem.W.keepIn K (.ref fI) = true) (mI : mg "is_question" = some (.ref fI))
    (GD : FnOk P w K mg base CX0 9 fD dD ["question"] (spAskQ K fun g x H H' => x = .int (qd g.toQ : Nat) ∧ Same H H')) (bD : Binds K dD ["question"] []) (kD : PySem.W.keepIn K (.ref fD) = true) (mD : mg "depth" = some (.ref fD))
    (GS : FnOk P w K mg base CX0 9 fS dS ["question"] (spAskQ K fun g x H H' => ∃ t p1 p2, x = .ref t ∧ Same H H' ∧ H p1 = none ∧ H p2 = none ∧ p1 ≠ p2 ∧ SqT K H' t [.ref p1, .ref p2] ∧ H t = none ∧ H' p1 = some (.lst ((signsQ markG g).map V.str)) ∧ H' p2 = some (.lst ((signsQ linkG g).map V.str)))) (bS : Binds K dS ["question"] []) (kS : PySem.W.keepIn K (.ref fS) = true) (mS : mg "signs" = some (.ref fS))
    (GN : FnOk P w K mg base CX0 9 fN dN ["question"] (spAskQ K fun g x H H' => ∃ p, x = .ref p ∧ Same H H' ∧ H p = none ∧ H' p = some (.lst ((freeQ g.toQ).map V.str)))) (bN : Binds K dN ["question"] []) (kN : PySem.W.keepIn K (.ref fN) = true) (mN : mg "free_names" = some (.ref fN)) : FnOk P w K mg base CX0 10 f fd [] spWritten := by
  refine F.ok scWritten (fun vs H Q E h => ?_) (fun cdv A outer s H vs Q E hr h => ?_)
  · rw [h.1]; rfl
  obtain ⟨rfl, q⟩ := h
  have nd := scWritten.nd
  refine ⟨_, (pss_cons (ps_set (i := 0) nd rfl (.inl rfl) (pe_tup (pa_cons pe_str (pa_cons (pe_tup (pa_cons pe_str (pa_cons pe_str (pa_cons (pe_tup (pa_cons pe_str pa_nil)) pa_nil)))) (pa_cons (pe_tup (pa_cons pe_str (pa_cons (pe_tup (pa_cons pe_str (pa_cons pe_str (pa_cons (pe_tup (pa_cons pe_str pa_nil)) pa_nil)))) (pa_cons (pe_tup (pa_cons pe_str (pa_cons pe_str (pa_cons pe_str (pa_cons pe_str pa_nil))))) pa_nil)))) pa_nil)))))
     (pss_cons (ps_if (PW.pt (pw_or (pt_cmpR (r := rNeD K) (op_neD hr.units) (pe_call GF (hr.mono (by decide)) rfl mF kF bF .nil pass0 (pa_cons (pv 0) pa_nil)) (pe_tup (pa_cons (pe_tup (pa_cons pe_int pa_nil)) (pa_cons pe_str pa_nil))) (nomark _)) (pw_or1 (pt_cmpR op_notBl (pe_call GI (hr.mono (by decide)) rfl mI kI bI .nil pass0 (pa_cons (pv 0) pa_nil)) pe_bl (nomark _))))) (pss_one (ps_ret pe_bl)) pss_nil)
     (pss_cons (ps_set (i := 0) nd rfl (.inl rfl) (pe_tup (pa_cons pe_str (pa_cons (pe_tup (pa_cons pe_str (pa_cons (pe_tup (pa_cons pe_str (pa_cons pe_str (pa_cons (pe_tup (pa_cons pe_str pa_nil)) pa_nil)))) pa_nil))) (pa_cons (pe_tup (pa_cons pe_str (pa_cons (pe_tup (pa_cons pe_str (pa_cons pe_str (pa_cons (pe_tup (pa_cons pe_str pa_nil)) pa_nil)))) (pa_cons (pe_tup (pa_cons pe_str (pa_cons pe_str (pa_cons pe_str (pa_cons pe_str pa_nil))))) pa_nil)))) pa_nil)))))
     (pss_cons (ps_if (PW.pt (pw_or (pt_cmpR (r := rNeD K) (op_neD hr.units) (pe_call GF (hr.mono (by decide)) rfl mF kF bF .nil pass0 (pa_cons (pv 0) pa_nil)) (pe_tup (pa_cons (pe_tup (pa_cons pe_int (pa_cons pe_int pa_nil))) (pa_cons pe_str pa_nil))) (nomark _)) (pw_or1 (pt_cmpR (r := rNeD K) (op_neD hr.units) (pe_call GF (hr.mono (by decide)) rfl mF kF bF .nil pass0 (pa_cons (pe_tup (pa_cons pe_str (pa_cons pe_str (pa_cons (pe_tup (pa_cons pe_str (pa_cons pe_str (pa_cons (pe_tup (pa_cons pe_str pa_nil)) pa_nil)))) pa_nil)))) pa_nil)) (pe_tup (pa_cons (pe_tup (pa_cons pe_int pa_nil)) (pa_cons pe_str pa_nil))) (nomark _))))) (pss_one (ps_ret pe_bl)) pss_nil)
     (pss_cons (ps_set (i := 1) nd rfl (.inl rfl) (pe_tup (pa_cons pe_str (pa_cons (pe_tup (pa_cons pe_str (pa_cons pe_str (pa_cons (pe_tup (pa_cons pe_str (pa_cons pe_str (pa_cons pe_str pa_nil)))) pa_nil)))) (pa_cons (pe_tup (pa_cons pe_str (pa_cons pe_str (pa_cons (pe_tup (pa_cons pe_str (pa_cons pe_str (pa_cons (pe_tup (pa_cons pe_str (pa_cons pe_str (pa_cons pe_str pa_nil)))) pa_nil)))) pa_nil)))) pa_nil)))))
     (pss_cons (ps_set (i := 2) nd rfl (.inl rfl) (pe_lst (pa_cons (pe_call GD (hr.mono (by decide)) rfl mD kD bD .nil pass0 (pa_cons (pe_tup (pa_cons pe_str (pa_cons (pe_ix (r := rIxT K) ix_tup (pv 1) pe_int (fun _ _ => rfl)) (pa_cons (pe_tup (pa_cons pe_str (pa_cons pe_str (pa_cons (pe_tup (pa_cons pe_str (pa_cons pe_str (pa_cons pe_str pa_nil)))) pa_nil)))) pa_nil)))) pa_nil)) (pa_cons (pe_call GD (hr.mono (by decide)) rfl mD kD bD .nil pass0 (pa_cons (pv 1) pa_nil)) (pa_cons (pe_call GD (hr.mono (by decide)) rfl mD kD bD .nil pass0 (pa_cons (pe_tup (pa_cons pe_str (pa_cons (pe_tup (pa_cons pe_str (pa_cons (pv 1) (pa_cons (pe_ix (r := rIxT K) ix_tup (pv 1) pe_int (fun _ _ => rfl)) pa_nil)))) pa_nil))) pa_nil)) pa_nil)))))
     (pss_cons (ps_if (PW.pt (pw_or (pt_cmpR (r := rNeD K) (op_neD hr.units) (pv 2) (pe_lst (pa_cons pe_int (pa_cons pe_int (pa_cons pe_int pa_nil)))) (nomark _)) (pw_or1 (pt_cmpR (r := rNeD K) (op_neD hr.units) (pe_call GS (hr.mono (by decide)) rfl mS kS bS .nil pass0 (pa_cons (pe_tup (pa_cons pe_str (pa_cons (pe_tup (pa_cons pe_str (pa_cons pe_str (pa_cons pe_str pa_nil)))) (pa_cons (pe_tup (pa_cons pe_str (pa_cons pe_str (pa_cons pe_str (pa_cons pe_str pa_nil))))) pa_nil)))) pa_nil)) (pe_tup (pa_cons (pe_lst (pa_cons pe_str pa_nil)) (pa_cons (pe_lst (pa_cons pe_str pa_nil)) pa_nil))) (nomark _))))) (pss_one (ps_ret pe_bl)) pss_nil)
     (pss_cons (ps_set (i := 2) nd rfl (.inl rfl) (pe_call GS (hr.mono (by decide)) rfl mS kS bS .nil pass0 (pa_cons (pe_tup (pa_cons pe_str pa_nil)) pa_nil)))
     (pss_cons (ps_expr (pe_bm PySem.F.plainAttrs_list PySem.F.slot_list_append PySem.F.type_list_append mt_append (pe_ix (r := rIxT K) ix_tup (pv 2) pe_int (fun _ _ => rfl)) (pa_cons pe_str pa_nil)))
     (pss_one (ps_ret (pe_and (pe_cmpR (r := rEqD K) (op_eqD hr.units) (pe_ix (r := rIxT K) ix_tup (pv 2) pe_int (fun _ _ => rfl)) (pe_lst pa_nil) (nomark _)) (pe_and (pe_cmpR (r := rEqD K) (op_eqD hr.units) (pe_call GN (hr.mono (by decide)) rfl mN kN bN .nil pass0 (pa_cons (pe_tup (pa_cons pe_str (pa_cons pe_str (pa_cons pe_str (pa_cons pe_str pa_nil))))) pa_nil)) (pe_lst (pa_cons pe_str (pa_cons pe_str pa_nil))) (nomark _)) (pe_one (pe_cmpR (r := rEqD K) (op_eqD hr.units) (pe_call GN (hr.mono (by decide)) rfl mN kN bN .nil pass0 (pa_cons (pe_tup (pa_cons pe_str (pa_cons pe_str (pa_cons pe_str pa_nil)))) pa_nil)) (pe_lst (pa_cons pe_str (pa_cons pe_str pa_nil))) (nomark _)))))))))))))))), ?_⟩
  have notQ : ∀ {σ : L2.St} {H : Hp} {R : Bool → Hp → Prop} {v : V} {g : Gn} {r : List Nat × Str}, σ[0]? = some (some v) → Dp K H v g.d → goodB g = true → dueG g = some r → (∀ H', Same H H' → R false H') → tTest (tOp rNotB (tCall (spIsQ K) [] E0 (tCons (tVar 0) tNil)) (tC (.bl false))) σ H R := fun {σ H R v g r} h0 hd ok due q => ⟨v, h0, nil_read (show spIsQ K [v] H _ E0 from ⟨v, g, rfl, hd, (good_b ok).1, (good_b ok).2, fun H' s' => ⟨_, _, rfl, rfl, _, rfl, by rw [due]; exact q H' s'⟩⟩)⟩
  refine seq_te (fun y H' => Same H H' ∧ Dp K H' y wq1.d) (fun R hR => gv_tup (K := K) (ds := [.str "and", .tuple [.str "all", .str "y", .tuple [.str "true"]], .tuple [.str "and", .tuple [.str "some", .str "x", .tuple [.str "true"]], .tuple [.str "link", .str "next", .str "x", .str "y"]]]) (by repeat first | exact gvs_nil | refine gvs_cons ?_ ?_ | exact gv_non | exact gv_int _ | exact gv_str _ | refine gv_tup ?_ | refine gv_lst ?_) (by decide) H (Same.refl _) R fun y H' s' d' => hR _ _ ⟨s', d'⟩) fun y H1 ⟨s1, d1⟩ => ?_
  show tSeq (tIfS _ _ _) _ _ [some y, none, none] H1
  refine seq_any (fun σ' H' => σ' = [some y, none, none] ∧ Same H H') (fun D' rt' nx' => ?_) fun σ' H2 ⟨eσ, s2⟩ => ?_
  · refine gv_ne (d := wrongD (some ([0], "free"))) (e := .tuple [.tuple [.int 0], .str "free"]) (gv_first (gv_var rfl d1) (by decide +kernel) (by decide +kernel)) (by repeat first | exact gvs_nil | refine gvs_cons ?_ ?_ | exact gv_non | exact gv_int _ | exact gv_str _ | refine gv_tup ?_ | refine gv_lst ?_) (by decide +kernel) fun H2 s2 => ?_
    rw [show (!PyData.eqv (wrongD (some ([0], "free"))) (.tuple [.tuple [.int 0], .str "free"])) = false by decide +kernel]
    refine iteF' rfl (notQ rfl (dp_same s2 _ _ d1) (by decide +kernel) (r := ([0], "free")) (by decide +kernel) fun H3 s3 => iteF' rfl (nx' _ _ ⟨rfl, (s1.trans s2).trans s3⟩))
  subst eσ
  refine seq_te (fun y H' => Same H H' ∧ Dp K H' y wq2.d) (fun R hR => gv_tup (K := K) (ds := [.str "and", .tuple [.str "not", .tuple [.str "some", .str "x", .tuple [.str "true"]]], .tuple [.str "and", .tuple [.str "some", .str "y", .tuple [.str "true"]], .tuple [.str "link", .str "next", .str "x", .str "y"]]]) (by repeat first | exact gvs_nil | refine gvs_cons ?_ ?_ | exact gv_non | exact gv_int _ | exact gv_str _ | refine gv_tup ?_ | refine gv_lst ?_) (by decide) H2 (Same.refl _) R fun y H' s' d' => hR _ _ ⟨s2.trans s', d'⟩) fun y H3 ⟨s3, d3⟩ => ?_
  show tSeq (tIfS _ _ _) _ _ [some y, none, none] H3
  refine seq_any (fun σ' H' => σ' = [some y, none, none] ∧ Same H H') (fun D' rt' nx' => ?_) fun σ' H4 ⟨eσ, s4⟩ => ?_
  · refine gv_ne (d := wrongD (some ([0, 0], "free"))) (e := .tuple [.tuple [.int 0, .int 0], .str "free"]) (gv_first (gv_var rfl d3) (by decide +kernel) (by decide +kernel)) (by repeat first | exact gvs_nil | refine gvs_cons ?_ ?_ | exact gv_non | exact gv_int _ | exact gv_str _ | refine gv_tup ?_ | refine gv_lst ?_) (by decide +kernel) fun H4 s4 => ?_
    rw [show (!PyData.eqv (wrongD (some ([0, 0], "free"))) (.tuple [.tuple [.int 0, .int 0], .str "free"])) = false by decide +kernel]
    refine iteF' rfl (gv_ne (d := wrongD (some ([0], "bound"))) (e := .tuple [.tuple [.int 0], .str "bound"]) (gv_first (g := wq3) (gv_tup (ds := [.str "some", .str "w", .tuple [.str "all", .str "w", .tuple [.str "maybe"]]]) (by repeat first | exact gvs_nil | refine gvs_cons ?_ ?_ | exact gv_non | exact gv_int _ | exact gv_str _ | refine gv_tup ?_ | refine gv_lst ?_) (by decide)) (by decide +kernel) (by decide +kernel)) (by repeat first | exact gvs_nil | refine gvs_cons ?_ ?_ | exact gv_non | exact gv_int _ | exact gv_str _ | refine gv_tup ?_ | refine gv_lst ?_) (by decide +kernel) fun H5 s5 => ?_)
    rw [show (!PyData.eqv (wrongD (some ([0], "bound"))) (.tuple [.tuple [.int 0], .str "bound"])) = false by decide +kernel]
    exact iteF' rfl (nx' _ _ ⟨rfl, (s3.trans s4).trans s5⟩)
  subst eσ
  refine seq_te (fun y H' => Same H H' ∧ Dp K H' y wq4.d) (fun R hR => gv_tup (K := K) (ds := [.str "or", .tuple [.str "some", .str "x", .tuple [.str "mark", .str "red", .str "x"]], .tuple [.str "all", .str "y", .tuple [.str "some", .str "z", .tuple [.str "same", .str "y", .str "z"]]]]) (by repeat first | exact gvs_nil | refine gvs_cons ?_ ?_ | exact gv_non | exact gv_int _ | exact gv_str _ | refine gv_tup ?_ | refine gv_lst ?_) (by decide) H4 (Same.refl _) R fun y H' s' d' => hR _ _ ⟨s4.trans s', d'⟩) fun z H5 ⟨s5, d5⟩ => ?_
  show tSeq (tAsg _ _) _ _ [some y, some z, none] H5
  have d5 : Dp K H5 z (.tuple [.str "or", .tuple [.str "some", .str "x", .tuple [.str "mark", .str "red", .str "x"]], .tuple [.str "all", .str "y", .tuple [.str "some", .str "z", .tuple [.str "same", .str "y", .str "z"]]]]) := d5
  have gD : ∀ {te : TE} {g : Gn} {k : Nat}, Gives K [some y, some z, none] H5 te g.d → goodB g = true → dueG g = none → qd g.toQ = k → Gives K [some y, some z, none] H5 (tCall (spAskQ K fun g x H H' => x = .int (qd g.toQ : Nat) ∧ Same H H') [] E0 (tCons te tNil)) (.int (k : Nat)) := fun {te g k} h ok due e => gv_ask h ok due fun x J J' ⟨ex, s⟩ => ⟨s, by rw [ex, e]; exact .int _⟩
  refine seq_te (fun u H' => Same H H' ∧ Dp K H' u (.list [.int 1, .int 2, .int 2])) (fun R hR => gv_lst (K := K) (ds := [.int (1 : Nat), .int (2 : Nat), .int (2 : Nat)]) (gvs_cons (gD (g := wq5) (gv_tup (ds := [.str "and", .tuple [.str "some", .str "x", .tuple [.str "mark", .str "red", .str "x"]], .tuple [.str "some", .str "y", .tuple [.str "mark", .str "red", .str "y"]]]) (by repeat first | exact gvs_nil | refine gvs_cons ?_ ?_ | exact gv_non | exact gv_int _ | exact gv_str _ | exact gv_var rfl d5 | exact gv_ix (k := 1) rfl d5 rfl | exact gv_ix (k := 2) rfl d5 rfl | refine gv_tup ?_ | refine gv_lst ?_) (by decide)) (by decide +kernel) (by decide +kernel) (by decide +kernel))
    (gvs_cons (gD (g := wq4) (gv_var rfl d5) (by decide +kernel) (by decide +kernel) (by decide +kernel)) (gvs_cons (gD (g := wq6) (gv_tup (ds := [.str "not", .tuple [.str "and", wq4.d, .tuple [.str "all", .str "y", .tuple [.str "some", .str "z", .tuple [.str "same", .str "y", .str "z"]]]]]) (by repeat first | exact gvs_nil | refine gvs_cons ?_ ?_ | exact gv_non | exact gv_int _ | exact gv_str _ | exact gv_var rfl d5 | exact gv_ix (k := 1) rfl d5 rfl | exact gv_ix (k := 2) rfl d5 rfl | refine gv_tup ?_ | refine gv_lst ?_) (by decide)) (by decide +kernel) (by decide +kernel) (by decide +kernel)) gvs_nil))) (by decide) H5 (Same.refl _) R fun y H' s' d' => hR _ _ ⟨s5.trans s', d'⟩) fun u H6 ⟨s6, d6⟩ => ?_
  show tSeq (tIfS _ _ _) _ _ [some y, some z, some u] H6
  have sg1 : signsQ markG wq7 = [("a" : Str)] := by decide +kernel
  have sg2 : signsQ linkG wq7 = [("a" : Str)] := by decide +kernel
  refine seq_any (fun σ' H' => σ' = [some y, some z, some u] ∧ Same H H') (fun D' rt' nx' => ?_) fun σ' H7 ⟨eσ, s7⟩ => ?_
  · refine gv_ne (d := .list [.int 1, .int 2, .int 2]) (e := .list [.int 1, .int 2, .int 2]) (gv_var rfl d6) (by repeat first | exact gvs_nil | refine gvs_cons ?_ ?_ | exact gv_non | exact gv_int _ | exact gv_str _ | refine gv_tup ?_ | refine gv_lst ?_) (by decide +kernel) fun H7 s7 => ?_
    rw [show (!PyData.eqv (.list [.int 1, .int 2, .int 2]) (.list [.int 1, .int 2, .int 2])) = false by decide +kernel]
    refine iteF' rfl (gv_ne (d := .tuple [.list [.str "a"], .list [.str "a"]]) (e := .tuple [.list [.str "a"], .list [.str "a"]]) (gv_ask (g := wq7) (gv_tup (ds := [.str "and", .tuple [.str "mark", .str "a", .str "x"], .tuple [.str "link", .str "a", .str "x", .str "x"]]) (by repeat first | exact gvs_nil | refine gvs_cons ?_ ?_ | exact gv_non | exact gv_int _ | exact gv_str _ | refine gv_tup ?_ | refine gv_lst ?_) (by decide)) (by decide +kernel) (by decide +kernel) fun x J J' ⟨t, p1, p2, ex, s, _, _, _, ht, _, e1, e2⟩ => ⟨s, ?_⟩) (by repeat first | exact gvs_nil | refine gvs_cons ?_ ?_ | exact gv_non | exact gv_int _ | exact gv_str _ | refine gv_tup ?_ | refine gv_lst ?_) (by decide +kernel) fun H8 s8 => ?_)
    · rw [ex]
      rw [sg1] at e1
      rw [sg2] at e2
      exact .tup ht (.cons (.lst (SqL.of e1) (.cons (.str "a") .nil)) (.cons (.lst (SqL.of e2) (.cons (.str "a") .nil)) .nil))
    rw [show (!PyData.eqv (.tuple [.list [.str "a"], .list [.str "a"]]) (.tuple [.list [.str "a"], .list [.str "a"]])) = false by decide +kernel]
    exact iteF' rfl (nx' _ _ ⟨rfl, (s6.trans s7).trans s8⟩)
  subst eσ
  have nil1 : signsQ markG (.tr true) = [] := by decide +kernel
  have nil2 : signsQ linkG (.tr true) = [] := by decide +kernel
  refine seq_te (fun x H' => ∃ t p1 p2, x = .ref t ∧ Same H H' ∧ H p1 = none ∧ p1 ≠ p2 ∧ SqT K H' t [.ref p1, .ref p2] ∧ H' p1 = some (.lst []) ∧ H' p2 = some (.lst [])) (fun R hR => ?_) fun x H8 ⟨t, p1, p2, ex, s8, n1, ne, ht, e1, e2⟩ => ?_
  · refine gv_arg (gv_tup (K := K) (ds := [.str "true"]) (by repeat first | exact gvs_nil | refine gvs_cons ?_ ?_ | exact gv_non | exact gv_int _ | exact gv_str _ | refine gv_tup ?_ | refine gv_lst ?_) (by decide)) fun a J s d => (show spAskQ K _ [a] J _ E0 from ⟨a, .tr true, rfl, d, (good_b (g := .tr true) (by decide +kernel)).1, (good_b (g := .tr true) (by decide +kernel)).2, by decide +kernel, fun x J' ⟨t, p1, p2, ex, s', n1, n2, ne, ht, _, e1, e2⟩ => ?_⟩)
    rw [nil1] at e1
    rw [nil2] at e2
    exact hR _ _ ⟨t, p1, p2, ex, (s7.trans s).trans s', none_before (s7.trans s) n1, ne, ht, e1, e2⟩
  subst ex
  refine seq_any (fun σ' H' => σ' = [some y, some z, some (.ref t)] ∧ Same H H' ∧ SqT K H' t [.ref p1, .ref p2] ∧ H' p2 = some (.lst [])) (fun D' rt' nx' => ?_) fun σ' H9 ⟨eσ, s9, ht9, e29⟩ => ?_
  · refine ⟨_, rfl, t, _, 0, .ref p1, rfl, rfl, ht, atI_nat (j := 0) rfl, .inl ⟨rfl, _, SqL.of e1⟩, p1, [], .str "red", rfl, rfl, e1, by decide, nx' _ _ ⟨rfl, same_upd s8 n1, TupKeep.upd e1 _ _ ht, by rw [upd_ne ne.symm]; exact e2⟩⟩
  subst eσ
  refine ⟨_, rfl, t, _, 1, .ref p2, rfl, rfl, ht9, atI_nat (j := 1) rfl, Nat.zero_le _, fun p np => ?_⟩
  have sp := same_new np (o := .lst [])
  refine ⟨.list [], .list [], .lst (SqL.of (sp _ _ e29)) .nil, .lst (SqL.of upd_same) .nil, by decide +kernel, by decide +kernel, _, rfl, iteT' (by decide +kernel) ?_⟩
  have s10 := s9.trans sp
  generalize L2.upd H9 p (.lst []) = H10 at *
  have gN : ∀ {te : TE} {g : Gn} {ns : List Str} {σ : L2.St}, Gives K σ H10 te g.d → goodB g = true → dueG g = none → freeQ g.toQ = ns → Gives K σ H10 (tCall (spAskQ K fun g x H H' => ∃ p, x = .ref p ∧ Same H H' ∧ H p = none ∧ H' p = some (.lst ((freeQ g.toQ).map V.str))) [] E0 (tCons te tNil)) (.list (ns.map PyData.str)) := fun {te g ns σ} h ok due e => gv_ask h ok due fun x J J' ⟨p, ex, s, _, ep⟩ => ⟨s, by rw [ex]; rw [e] at ep; exact .lst (SqL.of ep) (dp_strs ns)⟩
  have f8 : freeQ wq8.toQ = [("b7" : Str), "x"] := by
    have e : firstsX (freeS wq8.toQ) = [("x" : Str), "b7"] := by decide +kernel
    unfold freeQ
    rw [e]
    exact (sortX_of (List.Perm.swap _ _ _) (by decide +kernel)).symm
  have f9 : freeQ wq9.toQ = [("x10" : Str), "x9"] := by
    have e : firstsX (freeS wq9.toQ) = [("x9" : Str), "x10"] := by decide +kernel
    unfold freeQ
    rw [e]
    exact (sortX_of (List.Perm.swap _ _ _) (by decide +kernel)).symm
  refine gv_eq (d := .list ([("b7" : Str), "x"].map PyData.str)) (e := .list [.str "b7", .str "x"]) (gN (g := wq8) (gv_tup (ds := [.str "link", .str "next", .str "x", .str "b7"]) (by repeat first | exact gvs_nil | refine gvs_cons ?_ ?_ | exact gv_non | exact gv_int _ | exact gv_str _ | refine gv_tup ?_ | refine gv_lst ?_) (by decide)) (by decide +kernel) (by decide +kernel) f8) (by repeat first | exact gvs_nil | refine gvs_cons ?_ ?_ | exact gv_non | exact gv_int _ | exact gv_str _ | refine gv_tup ?_ | refine gv_lst ?_) (by decide +kernel) fun H11 s11 => ⟨_, rfl, iteT' (by decide +kernel) ?_⟩
  refine Gives.later (gN (g := wq9) (gv_tup (ds := [.str "same", .str "x9", .str "x10"]) (by repeat first | exact gvs_nil | refine gvs_cons ?_ ?_ | exact gv_non | exact gv_int _ | exact gv_str _ | refine gv_tup ?_ | refine gv_lst ?_) (by decide)) (by decide +kernel) (by decide +kernel) f9) s11 H11 (Same.refl _) _ ?_
  intro a J s d
  refine gv_lst (K := K) (ds := [.str "x10", .str "x9"]) (by repeat first | exact gvs_nil | refine gvs_cons ?_ ?_ | exact gv_non | exact gv_int _ | exact gv_str _ | refine gv_tup ?_ | refine gv_lst ?_) (by decide) J (Same.refl _) _ ?_
  intro b J2 s2 d2
  refine ⟨_, _, dp_same s2 _ _ d, d2, by decide +kernel, by decide +kernel, ?_⟩
  rw [show PyData.eqv (.list ([("x10" : Str), "x9"].map PyData.str)) (.list [.str "x10", .str "x9"]) = true by decide +kernel]
  exact q _ (((s10.trans s11).trans s).trans s2)
end
end DQ

set_option Elab.async false
set_option linter.all false
set_option maxRecDepth 100000
set_option maxHeartbeats 1000000
namespace DQ
open PySem PySem.Spec PyProof.Rows L2
/-! ### how great what is drawn is, and what is made of it -/
theorem dq_dep {ms cs ns : List Str} {k p : Nat} {q : Qn} (d : Dq ms cs ns k p q) : q.dep ≤ k + p := by
  induction d with
  | tr b => exact Nat.zero_le _
  | mk _ _ => exact Nat.zero_le _
  | lk _ _ _ => exact Nat.zero_le _
  | sm _ _ => exact Nat.zero_le _
  | nt _ ih => show _ + 1 ≤ _; omega
  | cn h2 _ _ ia ic => show max _ _ + 1 ≤ _; omega
  | qu _ ih => show _ + 1 ≤ _; omega
def fB (p k : Nat) : Nat := if p = 0 then k + 1 else 3 * p * (k + 1) - 1
theorem fB_pos (p k : Nat) : 1 ≤ fB p k := by
  unfold fB
  split
  · omega
  · rename_i h
    have : 1 * 1 ≤ p * (k + 1) := Nat.mul_le_mul (by omega) (by omega)
    rw [Nat.mul_assoc]
    omega
theorem dq_sz {ms cs ns : List Str} {k p : Nat} {q : Qn} (d : Dq ms cs ns k p q) : q.sz ≤ fB p k := by
  induction d with
  | tr b => exact fB_pos _ _
  | mk _ _ => exact fB_pos _ _
  | lk _ _ _ => exact fB_pos _ _
  | sm _ _ => exact fB_pos _ _
  | @nt ns k p a _ ih =>
    show a.sz + 1 ≤ _
    unfold fB at ih ⊢
    rw [if_neg (by omega)]
    have e : 3 * (p + 1) * (k + 1) = 3 * p * (k + 1) + 3 * (k + 1) := by rw [Nat.mul_add 3 p 1, Nat.add_mul, Nat.mul_one]
    split at ih <;> omega
  | @cn ns k p b a c h2 _ _ ia ic =>
    show a.sz + c.sz + 1 ≤ _
    unfold fB at ia ic ⊢
    rw [if_neg (by omega)] at ia ic ⊢
    have e : 3 * p * (k + 1) = 3 * (p / 2) * (k + 1) + 3 * (p - p / 2) * (k + 1) := by
      rw [← Nat.add_mul, ← Nat.mul_add]
      congr 2
      omega
    have h1 : 1 * 1 ≤ (p / 2) * (k + 1) := Nat.mul_le_mul (by omega) (by omega)
    have h3 : 1 * 1 ≤ (p - p / 2) * (k + 1) := Nat.mul_le_mul (by omega) (by omega)
    rw [Nat.mul_assoc] at e ia ic ⊢
    rw [Nat.mul_assoc 3 (p / 2), Nat.mul_assoc 3 (p - p / 2)] at e
    omega
  | @qu ns k p b a _ ih =>
    show a.sz + 1 ≤ _
    unfold fB at ih ⊢
    split at ih
    · rename_i h; rw [if_pos h]; omega
    · rename_i h
      rw [if_neg h]
      have e : 3 * p * (k + 1 + 1) = 3 * p * (k + 1) + 3 * p := by rw [Nat.mul_add (3 * p) (k + 1) 1, Nat.mul_one]
      have h1 : 1 * 1 ≤ p * (k + 1) := Nat.mul_le_mul (by omega) (by omega)
      rw [Nat.mul_assoc] at ih
      rw [e, Nat.mul_assoc]
      omega
/-- a word that is drawn -/
def TinyW (x : Str) : Prop := PyData.canLay0 (.str x) = true ∧ x.cps.size ≤ 10
theorem tinyW_sm {x : Str} (h : TinyW x) : Sm 0 10 (.str x) := sm_str h.1 h.2
theorem tiny_trW (b : Bool) : TinyW (trW b) := by cases b <;> exact ⟨by decide +kernel, by decide +kernel⟩
theorem tiny_cnW (b : Bool) : TinyW (cnW b) := by cases b <;> exact ⟨by decide +kernel, by decide +kernel⟩
theorem tiny_quW (b : Bool) : TinyW (quW b) := by cases b <;> exact ⟨by decide +kernel, by decide +kernel⟩
theorem tiny_uvwt (k : Nat) : TinyW (uvwt k) := by rcases uvwt_cases k with e | e | e | e <;> (rw [e]; exact ⟨by decide +kernel, by decide +kernel⟩)
theorem dq_sm {ms cs ns : List Str} {k p : Nat} {q : Qn} (d : Dq ms cs ns k p q) (h : ∀ x, x ∈ ms ∨ x ∈ cs ∨ x ∈ ns → TinyW x) : Sm (q.dep + 1) (50 * q.sz) q.d := by
  have n0 : SmL 0 0 [] := sml_nil
  have w : ∀ {x : Str}, TinyW x → Sm 0 10 (.str x) := tinyW_sm
  have z := Nat.zero_le
  induction d with
  | tr b => exact (((w (tiny_trW b)).cons n0 (z _)).tuple).mono (Nat.le_refl _) (by show _ ≤ 50 * 1; decide)
  | mk hm hx => exact (((w ⟨by decide +kernel, by decide +kernel⟩).cons ((w (h _ (.inl hm))).cons ((w (h _ (.inr (.inr hx)))).cons n0 (z _)) (z _)) (z _)).tuple).mono (Nat.le_refl _) (by show _ ≤ 50 * 1; decide)
  | lk hc hx hy => exact (((w ⟨by decide +kernel, by decide +kernel⟩).cons ((w (h _ (.inr (.inl hc)))).cons ((w (h _ (.inr (.inr hx)))).cons ((w (h _ (.inr (.inr hy)))).cons n0 (z _)) (z _)) (z _)) (z _)).tuple).mono (Nat.le_refl _) (by show _ ≤ 50 * 1; decide)
  | sm hx hy => exact (((w ⟨by decide +kernel, by decide +kernel⟩).cons ((w (h _ (.inr (.inr hx)))).cons ((w (h _ (.inr (.inr hy)))).cons n0 (z _)) (z _)) (z _)).tuple).mono (Nat.le_refl _) (by show _ ≤ 50 * 1; decide)
  | @nt ns k p a _ ih =>
    have := ih h
    exact (((w (x := "not") ⟨by decide +kernel, by decide +kernel⟩).cons (this.cons (n0.mono (z _) (Nat.le_refl _)) (Nat.le_refl _)) (z _)).tuple).mono (Nat.le_refl _) (by show _ ≤ 50 * (a.sz + 1); omega)
  | @cn ns k p b a c _ _ _ ia ic =>
    have i1 := ia h
    have i2 := ic h
    refine (((w (tiny_cnW b)).cons (i1.cons (i2.cons (n0.mono (z (max (a.dep + 1) (c.dep + 1))) (Nat.le_refl _)) (Nat.le_max_right _ _)) (Nat.le_max_left _ _)) (z _)).tuple).mono ?_ (by show _ ≤ 50 * (a.sz + c.sz + 1); omega)
    show max (a.dep + 1) (c.dep + 1) + 1 ≤ max a.dep c.dep + 1 + 1
    omega
  | @qu ns k p b a _ ih =>
    have := ih fun x hx => by
      rcases hx with hx | hx | hx
      · exact h x (.inl hx)
      · exact h x (.inr (.inl hx))
      · rcases List.mem_append.mp hx with hx | hx
        · exact h x (.inr (.inr hx))
        · rw [List.mem_singleton.mp hx]; exact tiny_uvwt _
    exact (((w (tiny_quW b)).cons ((w (tiny_uvwt _)).cons (this.cons (n0.mono (z _) (Nat.le_refl _)) (Nat.le_refl _)) (z _)) (z _)).tuple).mono (Nat.le_refl _) (by show _ ≤ 50 * (a.sz + 1); omega)
/-! parts of a tree -/
structure PartG (g : Gn) (k n : Nat) (e : En) : Prop where
  ok : g.ok → e.g.ok
  sm : Sm k n g.d → Sm k n e.g.d
  sz : e.g.sz ≤ g.sz
theorem sm_part1 {k n : Nat} {a : PyData} {w : Str} (h : Sm k n (.tuple [.str w, a])) : Sm k n a := by
  obtain ⟨j, rfl, h1⟩ := h.untup
  obtain ⟨_, b, e, _, h2⟩ := h1.uncons
  obtain ⟨x, y, e2, h3, _⟩ := h2.uncons
  exact h3.mono (by omega) (by omega)
theorem sm_part2 {k n : Nat} {w a b : PyData} (h : Sm k n (.tuple [w, a, b])) : Sm k n a ∧ Sm k n b := by
  obtain ⟨j, rfl, h1⟩ := h.untup
  obtain ⟨_, _, e, _, h2⟩ := h1.uncons
  obtain ⟨_, _, e2, ha, h3⟩ := h2.uncons
  obtain ⟨_, _, e3, hb, _⟩ := h3.uncons
  exact ⟨ha.mono (by omega) (by omega), hb.mono (by omega) (by omega)⟩
theorem part_of {k n : Nat} : ∀ (g : Gn) (p : List Nat) (ar : List Str), ∀ e ∈ preG g p ar, PartG g k n e
  | .bad _, p, ar, e, h => by rw [List.mem_singleton.mp h]; exact ⟨id, id, Nat.le_refl _⟩
  | .tr _, p, ar, e, h => by rw [List.mem_singleton.mp h]; exact ⟨id, id, Nat.le_refl _⟩
  | .mk _ _, p, ar, e, h => by rw [List.mem_singleton.mp h]; exact ⟨id, id, Nat.le_refl _⟩
  | .lk _ _ _, p, ar, e, h => by rw [List.mem_singleton.mp h]; exact ⟨id, id, Nat.le_refl _⟩
  | .sm _ _, p, ar, e, h => by rw [List.mem_singleton.mp h]; exact ⟨id, id, Nat.le_refl _⟩
  | .nt a, p, ar, e, h => by
    rcases List.mem_cons.mp h with rfl | h
    · exact ⟨id, id, Nat.le_refl _⟩
    · have i := part_of (k := k) (n := n) a _ _ e h
      exact ⟨fun o => i.ok o, fun s => i.sm (sm_part1 s), by have := i.sz; simp only [Gn.sz]; omega⟩
  | .cn b a c, p, ar, e, h => by
    rcases List.mem_cons.mp h with rfl | h
    · exact ⟨id, id, Nat.le_refl _⟩
    · rcases List.mem_append.mp h with h | h
      · have i := part_of (k := k) (n := n) a _ _ e h
        exact ⟨fun o => i.ok o.1, fun s => i.sm (sm_part2 s).1, by have := i.sz; simp only [Gn.sz]; omega⟩
      · have i := part_of (k := k) (n := n) c _ _ e h
        exact ⟨fun o => i.ok o.2, fun s => i.sm (sm_part2 s).2, by have := i.sz; simp only [Gn.sz]; omega⟩
  | .qu b x a, p, ar, e, h => by
    rcases List.mem_cons.mp h with rfl | h
    · exact ⟨id, id, Nat.le_refl _⟩
    · have i := part_of (k := k) (n := n) a _ _ e h
      exact ⟨fun o => i.ok o.2, fun s => i.sm (sm_part2 s).2, by have := i.sz; simp only [Gn.sz]; omega⟩
theorem part_q : ∀ (q : Qn) (p : List Nat) (ar : List Str), ∀ e ∈ preG (Gn.ofQ q) p ar, ∃ r : Qn, e.g = Gn.ofQ r
  | .tr b, p, ar, e, h => by rw [List.mem_singleton.mp h]; exact ⟨.tr b, rfl⟩
  | .mk m x, p, ar, e, h => by rw [List.mem_singleton.mp h]; exact ⟨.mk m x, rfl⟩
  | .lk c x y, p, ar, e, h => by rw [List.mem_singleton.mp h]; exact ⟨.lk c x y, rfl⟩
  | .sm x y, p, ar, e, h => by rw [List.mem_singleton.mp h]; exact ⟨.sm x y, rfl⟩
  | .nt a, p, ar, e, h => by
    rcases List.mem_cons.mp h with rfl | h
    · exact ⟨.nt a, rfl⟩
    · exact part_q a _ _ e h
  | .cn b a c, p, ar, e, h => by
    rcases List.mem_cons.mp h with rfl | h
    · exact ⟨.cn b a c, rfl⟩
    · rcases List.mem_append.mp h with h | h
      · exact part_q a _ _ e h
      · exact part_q c _ _ e h
  | .qu b x a, p, ar, e, h => by
    rcases List.mem_cons.mp h with rfl | h
    · exact ⟨.qu b x a, rfl⟩
    · exact part_q a _ _ e h
theorem part_at : ∀ (g : Gn) (p : List Nat) (ar : List Str), ∀ e ∈ preG g p ar, ∃ pl, e.p = p ++ pl ∧ isPl g pl = true ∧ pl.length + e.g.dep ≤ g.dep
  | .bad d, p, ar, e, h => by rw [List.mem_singleton.mp h]; exact ⟨[], by simp, rfl, by simp⟩
  | .tr _, p, ar, e, h => by rw [List.mem_singleton.mp h]; exact ⟨[], by simp, rfl, by simp⟩
  | .mk _ _, p, ar, e, h => by rw [List.mem_singleton.mp h]; exact ⟨[], by simp, rfl, by simp⟩
  | .lk _ _ _, p, ar, e, h => by rw [List.mem_singleton.mp h]; exact ⟨[], by simp, rfl, by simp⟩
  | .sm _ _, p, ar, e, h => by rw [List.mem_singleton.mp h]; exact ⟨[], by simp, rfl, by simp⟩
  | .nt a, p, ar, e, h => by
    rcases List.mem_cons.mp h with rfl | h
    · exact ⟨[], by simp, rfl, by simp⟩
    · obtain ⟨pl, e1, e2, e3⟩ := part_at a _ _ e h
      exact ⟨0 :: pl, by rw [e1]; simp, e2, by simp only [Gn.dep, List.length_cons]; omega⟩
  | .cn b a c, p, ar, e, h => by
    rcases List.mem_cons.mp h with rfl | h
    · exact ⟨[], by simp, rfl, by simp⟩
    · rcases List.mem_append.mp h with h | h
      · obtain ⟨pl, e1, e2, e3⟩ := part_at a _ _ e h
        exact ⟨0 :: pl, by rw [e1]; simp, e2, by simp only [Gn.dep, List.length_cons]; omega⟩
      · obtain ⟨pl, e1, e2, e3⟩ := part_at c _ _ e h
        exact ⟨1 :: pl, by rw [e1]; simp, e2, by simp only [Gn.dep, List.length_cons]; omega⟩
  | .qu b x a, p, ar, e, h => by
    rcases List.mem_cons.mp h with rfl | h
    · exact ⟨[], by simp, rfl, by simp⟩
    · obtain ⟨pl, e1, e2, e3⟩ := part_at a _ _ e h
      exact ⟨0 :: pl, by rw [e1]; simp, e2, by simp only [Gn.dep, List.length_cons]; omega⟩
/-! what is put in -/
structure PutOk (g new r : Gn) (l k n j m : Nat) : Prop where
  ok : g.ok → new.ok → r.ok
  dep : r.dep ≤ max g.dep (l + new.dep)
  sz : r.sz ≤ g.sz + new.sz
  sm : Sm k n g.d → Sm j m new.d → Sm (k + j) (n + m) r.d
theorem put_ok {k n j m : Nat} : ∀ (g : Gn) (pl : List Nat) (new : Gn), isPl g pl = true → PutOk g new (putG g pl new) pl.length k n j m
  | g, [], new, _ => by
    rw [put_nil]
    exact ⟨fun _ h => h, by simp; omega, by omega, fun _ h => h.mono (by omega) (by omega)⟩
  | .nt a, 0 :: pl, new, h => by
    have i := put_ok (k := k - 1) (n := n - 5) (j := j) (m := m) a pl new h
    have d := i.dep
    have s := i.sz
    refine ⟨fun o1 o2 => i.ok o1 o2, by simp only [putG, Gn.dep, List.length_cons]; omega, by simp only [putG, Gn.sz]; omega, fun s1 s2 => ?_⟩
    obtain ⟨k', rfl, h1⟩ := s1.untup
    obtain ⟨a1, b1, e1, g1, h1⟩ := h1.uncons
    obtain ⟨a2, b2, e2, g2, h2⟩ := h1.uncons
    have w := g1.wt
    have i2 := (put_ok (k := k') (n := a2) (j := j) (m := m) a pl new h).sm g2 s2
    exact ((g1.cons (i2.cons (h2.mono (by omega) (Nat.le_refl _)) (Nat.le_refl (k' + j))) (by omega)).tuple).mono (by omega) (by omega)
  | .cn b a c, 0 :: pl, new, h => by
    have i := put_ok (k := k) (n := n) (j := j) (m := m) a pl new h
    have d := i.dep
    have s := i.sz
    refine ⟨fun o1 o2 => ⟨i.ok o1.1 o2, o1.2⟩, by simp only [putG, Gn.dep, List.length_cons]; omega, by simp only [putG, Gn.sz]; omega, fun s1 s2 => ?_⟩
    obtain ⟨k', rfl, h1⟩ := s1.untup
    obtain ⟨a1, b1, e1, g1, h1⟩ := h1.uncons
    obtain ⟨a2, b2, e2, g2, h2⟩ := h1.uncons
    obtain ⟨a3, b3, e3, g3, h3⟩ := h2.uncons
    have i2 := (put_ok (k := k') (n := a2) (j := j) (m := m) a pl new h).sm g2 s2
    exact ((g1.cons (i2.cons (g3.cons (h3.mono (by omega) (Nat.le_refl _)) (by omega)) (Nat.le_refl (k' + j))) (by omega)).tuple).mono (by omega) (by omega)
  | .cn b a c, 1 :: pl, new, h => by
    have i := put_ok (k := k) (n := n) (j := j) (m := m) c pl new h
    have d := i.dep
    have s := i.sz
    refine ⟨fun o1 o2 => ⟨o1.1, i.ok o1.2 o2⟩, by simp only [putG, Gn.dep, List.length_cons]; omega, by simp only [putG, Gn.sz]; omega, fun s1 s2 => ?_⟩
    obtain ⟨k', rfl, h1⟩ := s1.untup
    obtain ⟨a1, b1, e1, g1, h1⟩ := h1.uncons
    obtain ⟨a2, b2, e2, g2, h2⟩ := h1.uncons
    obtain ⟨a3, b3, e3, g3, h3⟩ := h2.uncons
    have i2 := (put_ok (k := k') (n := a3) (j := j) (m := m) c pl new h).sm g3 s2
    exact ((g1.cons (g2.cons (i2.cons (h3.mono (by omega) (Nat.le_refl _)) (Nat.le_refl (k' + j))) (by omega)) (by omega)).tuple).mono (by omega) (by omega)
  | .qu b x a, 0 :: pl, new, h => by
    have i := put_ok (k := k) (n := n) (j := j) (m := m) a pl new h
    have d := i.dep
    have s := i.sz
    refine ⟨fun o1 o2 => ⟨o1.1, i.ok o1.2 o2⟩, by simp only [putG, Gn.dep, List.length_cons]; omega, by simp only [putG, Gn.sz]; omega, fun s1 s2 => ?_⟩
    obtain ⟨k', rfl, h1⟩ := s1.untup
    obtain ⟨a1, b1, e1, g1, h1⟩ := h1.uncons
    obtain ⟨a2, b2, e2, g2, h2⟩ := h1.uncons
    obtain ⟨a3, b3, e3, g3, h3⟩ := h2.uncons
    have i2 := (put_ok (k := k') (n := a3) (j := j) (m := m) a pl new h).sm g3 s2
    exact ((g1.cons (g2.cons (i2.cons (h3.mono (by omega) (Nat.le_refl _)) (Nat.le_refl (k' + j))) (by omega)) (by omega)).tuple).mono (by omega) (by omega)
  | .nt a, (i + 1) :: pl, new, h => by simp [isPl] at h
  | .cn b a c, (i + 2) :: pl, new, h => by simp [isPl] at h
  | .qu b x a, (i + 1) :: pl, new, h => by simp [isPl] at h
  | .bad _, _ :: _, _, h => by simp [isPl] at h
  | .tr _, _ :: _, _, h => by simp [isPl] at h
  | .mk _ _, _ :: _, _, h => by simp [isPl] at h
  | .lk _ _ _, _ :: _, _, h => by simp [isPl] at h
  | .sm _ _, _ :: _, _, h => by simp [isPl] at h
end DQ

set_option Elab.async false
set_option linter.all false
set_option maxRecDepth 100000
set_option maxHeartbeats 1000000
namespace DQ
open PySem PySem.Spec PyProof.Rows L2
section
variable {P : Program} {w : World} {K : PySem.W.Frag} {mg : Str → Option Value} {base : Heap}
theorem rand_at {σ : L2.St} {H : Hp} {R : VK} {i : Nat} {g : Addr} {n m : Int} (h0 : σ[i]? = some (some (.ref g))) (G : Gen H g n) (h1 : 1 ≤ m) (h2 : m < 1000) (hn : n + 3 ≤ 1073741824) (q : ∀ (r : Nat) H', (r : Int) < m → Gen H' g (n + 3) → But g H H' → R (.int (r : Nat)) H') : tCall spRandom [] E0 (tCons (tVar i) (tCons (tC (.int m)) tNil)) σ H R :=
  ⟨.ref g, h0, (show spRandom [.ref g, .int m] H R E0 from ⟨g, m, n, rfl, G, h1, by omega, hn, fun r H' r0 r1 G' bt => by
    obtain ⟨k, rfl⟩ : ∃ k : Nat, r = (k : Int) := ⟨r.toNat, by omega⟩
    exact q k H' r1 G' bt⟩)⟩
/-- the first so many of written words -/
theorem take_read {σ : L2.St} {H : Hp} {R : VK} {i : Nat} {g : Addr} {n m : Int} (ws : List Str) (few : ws.length ≤ 20) (h0 : σ[i]? = some (some (.ref g))) (G : Gen H g n) (h1 : 1 ≤ m) (h2 : m < 1000) (hn : n + 3 ≤ 1073741824)
    (q : ∀ (p : Addr) (k : Nat) H', p ≠ g → H' p = some (.lst ((ws.take k).map V.str)) → Gen H' g (n + 3) → Keep g H H' → R (.ref p) H') : tSl (rSlL K) (tLst (tWs ws)) tNoPart (tPart (tCall spRandom [] E0 (tCons (tVar i) (tCons (tC (.int m)) tNil)))) σ H R := by
  refine tWs_read ws ⟨by rw [List.length_map, sizeLine_eq]; omega, fun p np => ?_⟩
  have s := same_new np (o := .lst (ws.map V.str))
  have e : L2.upd H p (.lst (ws.map V.str)) p = some (.lst (ws.map V.str)) := upd_same
  have npg := G.ne np
  refine rand_at h0 (G.same s) h1 h2 hn fun r H2 r1 G2 bt => ⟨_, rfl, p, _, rfl, SqL.of ((bt p npg).trans e), fun p2 np2 => ?_⟩
  rw [cut_takeX (by omega), Int.toNat_natCast, ← List.map_take]
  have n2 := G2.ne np2
  exact q p2 r _ n2 upd_same (G2.upd n2.symm) (((Keep.of_same s).trans (Keep.of_but bt)).trans (Keep.of_same (same_new np2)))
/-- the words of a kind in a list of parts -/
theorem kind_comp {wd : Str} {fn : Gn → Option Str} (WA : WordAt wd fn) {σ : L2.St} {H : Hp} {R : VK} {i j : Nat} {o : Addr} {ds : List V} {S : List En} (hσ : ∀ x : V, wipe ((wipe σ [j]).set j (some x)) [j] = wipe σ [j] ∧ ((wipe σ [j]).set j (some x))[j]? = some (some x)) (hi : σ[i]? = some (some (.ref o))) (ho : H o = some (.lst ds)) (al : DpAll K H ds (S.map fun e => e.g.d)) (clean : Clean S) (few : S.length ≤ 1000)
    (q : ∀ D H', Same H H' → H D = none → H' D = some (.lst ((S.filterMap fun e => fn e.g).map V.str)) → R (.ref D) H') : tLc (iList K (tVar i)) (gName j) (tTest (tOp rEq (tOp (rIxT K) (tVar j) (tC (.int 0))) (tC (.str wd)))) (tOp (rIxT K) (tVar j) (tC (.int 1))) [j] σ H R := by
  refine ⟨_, hi, o, rfl, ⟨_, SqL.of ho⟩, fun D nD => ?_⟩
  have ld : ds.length = S.length := by have := dpAll_len al; rw [List.length_map] at this; exact this
  refine lc_opts (walk_list (K := K) (a := o) (xs := ds)) (S.map fun e => (fn e.g).map V.str) (by rw [List.length_map, ld]) (by rw [sizeLine_eq]; omega) nD (fun H' s' => SqL.of (s' _ _ ho)) (fun _ _ _ _ y => by rw [y.1]; exact fun _ _ h => h) (fun k x H9 H' op hk ho' s' y R' N hR hN => ?_) fun H5 s5 e5 => ?_
  · obtain ⟨rfl, hx⟩ := y
    obtain ⟨w1, w2⟩ := hσ x
    have he : S[k]? = some S[k] := List.getElem?_eq_getElem (by omega)
    generalize S[k] = e at he
    rw [List.getElem?_map, he] at ho'
    injection ho' with ho'
    replace ho' : (fn e.g).map V.str = op := ho'
    have cl := clean e (List.mem_of_getElem? he)
    have dx := dp_same s' _ _ (dpAll_get al hx (show (S.map fun e => e.g.d)[k]? = some e.g.d by rw [List.getElem?_map, he]; rfl))
    obtain ⟨wd', rs, ed, lw, _⟩ := node_of cl.1.1 (ar := e.ar) cl.2
    obtain ⟨yes, no⟩ := WA e.g e.ar wd' rs cl.1.1 cl.2 ed
    rw [ed] at dx
    cases dx with
    | @tup ax vx _ hax rx =>
    cases rx with
    | @cons v0 vr _ _ g0 rr =>
    cases g0
    refine ⟨w1, _, w2, ax, _, 0, _, rfl, rfl, hax, atI_nat (j := 0) rfl, rfl, _, rfl, ?_⟩
    by_cases c : wd' = wd
    · obtain ⟨m, em, er⟩ := yes c
      refine iteT' (decide_eq_true (by rw [c])) ?_
      have hm : (V.str wd' :: vr)[1]? = some (.str m) := by
        cases rs with
        | nil => cases er
        | cons r0 rs =>
          cases er
          cases rr with
          | cons g1 _ => cases g1; rfl
      exact ⟨_, w2, ax, _, 1, _, rfl, rfl, hax, atI_nat (j := 1) hm, hR _ _ (by rw [← ho', em]; rfl) (Same.refl _)⟩
    · exact iteF' (decide_eq_false fun z => c (by injection z)) (hN (by rw [← ho', no c]; rfl) _ (Same.refl _))
  · refine q D _ s5 nD ?_
    rw [e5, List.filterMap_map, List.map_filterMap]
    rfl
/-- sorted(set(..)) of texts -/
theorem sort_set {σ : L2.St} {H : Hp} {R : VK} {te : TE} {ns : List Str} (few : ns.length ≤ 2100) (h : ∀ R' : VK, (∀ l H', Same H H' → SqL K H' l (ns.map V.str) → R' (.ref l) H') → te σ H R') (r : ∀ p H', Same H H' → H p = none → H' p = some (.lst ((sortX (firstsX ns)).map V.str)) → R (.ref p) H') :
    tCB (rSortX P w) (tCons (tCB (rSetX P w K) (tCons te tNil)) tNil) σ H R := by
  refine h _ fun l H1 s1 hl => ⟨l, ns, rfl, .inl hl, by unfold scanBound; omega, fun a L na o => ?_⟩
  refine ⟨a, L, rfl, upd_same, fun L1 p pm np => ?_⟩
  have s2 := same_new na (o := SetXO P w a L)
  have s3 := same_new np (o := .lst ((sortX L1).map V.str))
  refine r p _ ((s1.trans s2).trans s3) (none_before (s1.trans s2) np) ?_
  rw [upd_same, sortX_perm pm, sortX_perm (once_perm o (firstsX_once _ _ rfl).1)]
end
end DQ

set_option Elab.async false
set_option linter.all false
set_option maxRecDepth 100000
set_option maxHeartbeats 1000000
namespace DQ
open PySem PySem.Spec PyProof.Rows L2
/-! ### what is told of a drawn question; what is made of it -/
theorem mem_once {x : Str} {L : List Str} : x ∈ sortX (firstsX L) ↔ x ∈ L := ((sortX_sorts _).1.mem_iff).trans ((firstsX_once _ _ rfl).1.2 x)
theorem len_once (L : List Str) : (sortX (firstsX L)).length ≤ L.length := by rw [sortX_len]; exact (firstsX_once _ _ rfl).2
theorem sm_names {L : List Str} {m : Nat} (h : ∀ x ∈ L, TinyW x) (hm : L.length ≤ m) : Sm 1 (m * 11) (.list (L.map PyData.str)) :=
  (smAll (k := 0) (n := 10) (ds := L.map PyData.str) fun d hd => by
    obtain ⟨x, hx, rfl⟩ := List.mem_map.mp hd
    exact tinyW_sm (h x hx)).list (by rw [List.length_map]; exact hm)
theorem dq_signs {ms cs ns : List Str} {k p : Nat} {q : Qn} (d : Dq ms cs ns k p q) : ∀ (pl : List Nat) (ar : List Str), ∀ e ∈ preG (Gn.ofQ q) pl ar, ∀ x, markG e.g = some x ∨ linkG e.g = some x → x ∈ ms ∨ x ∈ cs := by
  induction d with
  | tr b => intro pl ar e he x hx; rw [List.mem_singleton.mp he] at hx; rcases hx with hx | hx <;> cases hx
  | mk hm _ => intro pl ar e he x hx; rw [List.mem_singleton.mp he] at hx; rcases hx with hx | hx <;> cases hx; exact .inl hm
  | lk hc _ _ => intro pl ar e he x hx; rw [List.mem_singleton.mp he] at hx; rcases hx with hx | hx <;> cases hx; exact .inr hc
  | sm _ _ => intro pl ar e he x hx; rw [List.mem_singleton.mp he] at hx; rcases hx with hx | hx <;> cases hx
  | nt _ ih =>
    intro pl ar e he x hx
    rcases List.mem_cons.mp he with rfl | h
    · rcases hx with hx | hx <;> cases hx
    · exact ih _ _ e h x hx
  | cn _ _ _ ia ic =>
    intro pl ar e he x hx
    rcases List.mem_cons.mp he with rfl | h
    · rcases hx with hx | hx <;> cases hx
    · rcases List.mem_append.mp h with h | h
      · exact ia _ _ e h x hx
      · exact ic _ _ e h x hx
  | qu _ ih =>
    intro pl ar e he x hx
    rcases List.mem_cons.mp he with rfl | h
    · rcases hx with hx | hx <;> cases hx
    · exact ih _ _ e h x hx
theorem qd_sz : ∀ q : Qn, qd q ≤ q.sz
  | .tr _ => Nat.zero_le _
  | .mk _ _ => Nat.zero_le _
  | .lk _ _ _ => Nat.zero_le _
  | .sm _ _ => Nat.zero_le _
  | .nt a => by have := qd_sz a; simp only [qd, Qn.sz]; omega
  | .cn _ a c => by have := qd_sz a; have := qd_sz c; simp only [qd, Qn.sz]; omega
  | .qu _ x a => by have := qd_sz a; simp only [qd, Qn.sz]; omega
theorem gn_pos (g : Gn) : 1 ≤ g.sz := by cases g <;> simp only [Gn.sz] <;> omega
theorem signs_few (fn : Gn → Option Str) (q : Qn) (hs : q.sz ≤ 179) : (signsQ fn (Gn.ofQ q)).length ≤ 179 := by
  have a := len_once ((preG (Gn.ofQ q) [] []).filterMap fun e => fn e.g)
  have b := List.length_filterMap_le (fun e : En => fn e.g) (preG (Gn.ofQ q) [] [])
  rw [pre_len, ofQ_sz] at b
  exact Nat.le_trans a (by omega)
theorem sm_told {ms cs ns : List Str} {k p : Nat} {q : Qn} (d : Dq ms cs ns k p q) (h : ∀ x, x ∈ ms ∨ x ∈ cs ∨ x ∈ ns → TinyW x) (hs : q.sz ≤ 179) :
    Sm 4 100000 (.list [.list ((freeQ q).map PyData.str), .tuple [.list ((signsQ markG (Gn.ofQ q)).map PyData.str), .list ((signsQ linkG (Gn.ofQ q)).map PyData.str)], .int (qd q : Nat)]) := by
  have few := fun fn => signs_few fn q hs
  have f1 : Sm 1 (358 * 11) (.list ((freeQ q).map PyData.str)) := sm_names (fun x hx => h x (.inr (.inr (dq_free d x (mem_free.mp hx))))) (by have := freeQ_len q; omega)
  have f2 : Sm 1 (179 * 11) (.list ((signsQ markG (Gn.ofQ q)).map PyData.str)) := sm_names (fun x hx => by
    obtain ⟨e, he, hx⟩ := List.mem_filterMap.mp (mem_once.mp hx)
    rcases dq_signs d _ _ e he x (.inl hx) with z | z
    · exact h x (.inl z)
    · exact h x (.inr (.inl z))) (few _)
  have f3 : Sm 1 (179 * 11) (.list ((signsQ linkG (Gn.ofQ q)).map PyData.str)) := sm_names (fun x hx => by
    obtain ⟨e, he, hx⟩ := List.mem_filterMap.mp (mem_once.mp hx)
    rcases dq_signs d _ _ e he x (.inr hx) with z | z
    · exact h x (.inl z)
    · exact h x (.inr (.inl z))) (few _)
  have hq : qd q ≤ q.sz := qd_sz q
  have f4 : Sm 0 64 (.int (qd q : Nat)) := sm_int (by omega) (by omega)
  have n1 : SmL 1 0 [] := sml_nil
  have n2 : SmL 2 0 [] := sml_nil
  exact ((f1.cons ((f2.cons (f3.cons n1 (Nat.le_refl _)) (Nat.le_refl _)).tuple.cons (f4.cons n2 (by decide)) (Nat.le_refl _)) (by decide)).list).mono (by decide) (by decide)
/-- a question stands apart from the generator -/
theorem sqT_off {K : PySem.W.Frag} {H : Hp} {g a : Addr} {ys xs : List V} (eg : H g = some (.lst ys)) (h : SqT K H a xs) : SqT K (off H g) a xs := by
  rcases h with (h | ⟨o, h⟩) | h
  · exact .inl (.inl (by rw [off_at (fun e => by rw [e, eg] at h; cases h)]; exact h))
  · exact .inl (.inr ⟨o, by rw [off_at (fun e => by rw [e, eg] at h; cases h)]; exact h⟩)
  · exact .inr h
theorem dq_off {K : PySem.W.Frag} {H : Hp} {g : Addr} {ys : List V} (G : H g = some (.lst ys)) : ∀ (q : Qn) {v : V}, Dp K H v q.d → Dp K (off H g) v q.d := fun q => by
  have str : ∀ {v : V} {x : Str}, Dp K H v (.str x) → Dp K (off H g) v (.str x) := fun h => by cases h; exact .str _
  have tup : ∀ {v : V} {ds : List PyData}, Dp K H v (.tuple ds) → (∀ xs, DpAll K H xs ds → DpAll K (off H g) xs ds) → Dp K (off H g) v (.tuple ds) := fun h f => by
    cases h with
    | tup s r => exact .tup (sqT_off G s) (f _ r)
  have nil : ∀ xs, DpAll K H xs [] → DpAll K (off H g) xs [] := fun xs h => by cases h; exact .nil
  have cons : ∀ {d : PyData} {ds : List PyData}, (∀ v, Dp K H v d → Dp K (off H g) v d) → (∀ xs, DpAll K H xs ds → DpAll K (off H g) xs ds) → ∀ xs, DpAll K H xs (d :: ds) → DpAll K (off H g) xs (d :: ds) := fun f1 f2 xs h => by
    cases h with
    | cons a r => exact .cons (f1 _ a) (f2 _ r)
  induction q with
  | tr b => exact fun h => tup h (cons (fun _ => str) nil)
  | mk m x => exact fun h => tup h (cons (fun _ => str) (cons (fun _ => str) (cons (fun _ => str) nil)))
  | lk c x y => exact fun h => tup h (cons (fun _ => str) (cons (fun _ => str) (cons (fun _ => str) (cons (fun _ => str) nil))))
  | sm x y => exact fun h => tup h (cons (fun _ => str) (cons (fun _ => str) (cons (fun _ => str) nil)))
  | nt a ih => exact fun h => tup h (cons (fun _ => str) (cons (fun _ => ih) nil))
  | cn b a c ia ic => exact fun h => tup h (cons (fun _ => str) (cons (fun _ => ia) (cons (fun _ => ic) nil)))
  | qu b x a ia => exact fun h => tup h (cons (fun _ => str) (cons (fun _ => str) (cons (fun _ => ia) nil)))
/-! what is written gives these data, apart from the generator -/
section
variable {K : PySem.W.Frag} {σ : L2.St} {H : Hp} {g : Addr}
def Go (K : PySem.W.Frag) (g : Addr) (σ : L2.St) (H : Hp) (te : TE) (d : PyData) : Prop := ∀ H1, Same H H1 → ∀ Q : VK, (∀ y H', Same H1 H' → Dp K (off H' g) y d → Q y H') → te σ H1 Q
def Gos (K : PySem.W.Frag) (g : Addr) (σ : L2.St) (H : Hp) (ta : TA) (ds : List PyData) : Prop := ∀ H1, Same H H1 → ∀ Q : List V → Hp → Prop, (∀ ys H', Same H1 H' → DpAll K (off H' g) ys ds → Q ys H') → ta σ H1 Q
theorem go_str (x : Str) : Go K g σ H (tC (.str x)) (.str x) := fun H1 _ _ q => q _ H1 (Same.refl _) (.str x)
theorem go_var {i : Nat} {v : V} {d : PyData} (h : σ[i]? = some (some v)) (hd : Dp K (off H g) v d) : Go K g σ H (tVar i) d := fun H1 s _ q => ⟨v, h, q _ H1 (Same.refl _) (dp_same (off_same s) _ _ hd)⟩
theorem gos_nil : Gos K g σ H tNil [] := fun H1 _ _ q => q _ H1 (Same.refl _) .nil
theorem gos_cons {te : TE} {ta : TA} {d : PyData} {ds : List PyData} (h1 : Go K g σ H te d) (h2 : Gos K g σ H ta ds) : Gos K g σ H (tCons te ta) (d :: ds) := fun H1 s Q q => h1 H1 s _ fun y H2 s2 d2 => h2 H2 (s.trans s2) _ fun ys H3 s3 d3 => q _ H3 (s2.trans s3) (.cons (dp_same (off_same s3) _ _ d2) d3)
theorem go_tup {ta : TA} {ds : List PyData} (hg : H g ≠ none) (h1 : Gos K g σ H ta ds) (few : ds.length ≤ 100 := by exact Nat.le_of_ble_eq_true rfl) : Go K g σ H (tTup ta) (.tuple ds) := fun H1 s Q q => h1 H1 s _ fun ys H2 s2 d2 => ⟨by rw [dpAll_len d2, sizeLine_eq]; omega, fun p np => q _ _ (s2.trans (same_new np)) (.tup (new_off (on_same (s.trans s2) hg) np) (dpAll_same (off_same (same_new np)) _ _ d2))⟩
theorem go_lst {R : VK} {ta : TA} {ds : List PyData} (hg : H g ≠ none) (h1 : Gos K g σ H ta ds) (few : ds.length ≤ 100) (q : ∀ p xs B, Same H B → B p = none → p ≠ g → DpAll K (off B g) xs ds → R (.ref p) (L2.upd B p (.lst xs))) : tLst ta σ H R := h1 H (Same.refl _) _ fun ys H2 s2 d2 => ⟨by rw [dpAll_len d2, sizeLine_eq]; omega, fun p np => q p ys H2 s2 np (ne_off (on_same s2 hg) np) d2⟩
/-- one of them, by the generator -/
theorem end_at {R : VK} {i : Nat} {l : Addr} {n : Int} {xs : List V} {ds : List PyData} (h0 : σ[1]? = some (some (.ref g))) (h1 : σ[i]? = some (some (.ref l))) (G : Gen H g n) (hn : n + 3 ≤ 1073741824) (nl : l ≠ g) (el : H l = some (.lst xs)) (al : DpAll K (off H g) xs ds) (h3 : ds.length = 3)
    (q : ∀ x d H', d ∈ ds → But g H H' → Gen H' g (n + 3) → Dp K (off H' g) x d → R x H') : tOp (rIxL K) (tVar i) (tCall spRandom [] E0 (tCons (tVar 1) (tCons (tC (.int 3)) tNil))) σ H R := by
  refine ⟨_, h1, rand_at h0 G (by decide) (by decide) hn fun r H' r3 G' bt => ?_⟩
  have lx := dpAll_len al
  have ex : xs[r]? = some xs[r] := List.getElem?_eq_getElem (by omega)
  have ed : ds[r]? = some ds[r] := List.getElem?_eq_getElem (by omega)
  exact ⟨l, xs, r, _, rfl, rfl, SqL.of ((bt l nl).trans el), atI_nat ex, q _ _ H' (List.mem_of_getElem? ed) bt G' (dp_same (off_but (Keep.of_but bt)) _ _ (dpAll_get al ex ed))⟩
theorem off_upd {X J : Hp} {M : Addr} {o : HO} (k : Keep g X J) (n : X M = none) : Same (off X g) (off (L2.upd J M o) g) := fun b z h => by
  unfold off at h ⊢
  split at h
  · cases h
  · rename_i ng
    rw [if_neg ng, upd_ne (fun e => by rw [e, n] at h; cases h)]
    exact k _ _ ng h
theorem off2_upd {J : Hp} {M : Addr} {o : HO} : Same (off (off J g) M) (off (L2.upd J M o) g) := fun b z h => by
  unfold off at h ⊢
  split at h
  · cases h
  · rename_i nm
    split at h
    · cases h
    · rename_i ng
      rw [if_neg ng, upd_ne nm]
      exact h
theorem plcs_at {J : Hp} : ∀ {ws : List V} {S : List En} {i : Nat}, Plcs K J ws S → i < S.length → ∃ z e, ws[i]? = some z ∧ e ∈ S ∧ Plc K J z e
  | [], [], i, _, h => absurd h (Nat.not_lt_zero _)
  | v :: ws, e :: S, 0, h, _ => ⟨v, e, rfl, List.mem_cons_self .., h.1⟩
  | v :: ws, e :: S, i + 1, h, l => by
    obtain ⟨z, e', h1, h2, h3⟩ := plcs_at (i := i) h.2 (by rw [List.length_cons] at l; omega)
    exact ⟨z, e', by rw [List.getElem?_cons_succ]; exact h1, List.mem_cons_of_mem _ h2, h3⟩
end
/-! the trees that are made -/
/-- good enough to be judged -/
structure Fine (g : Gn) : Prop where
  ok : g.ok
  sm : Sm 60 1000000 g.d
  dep : g.dep < 30
  sz : g.sz ≤ 1000
def maybeD : PyData := .tuple [.str "some", .str "x", .tuple [.str "maybe"]]
def maybeG : Gn := .qu true "x" (.bad (.tuple [.str "maybe"]))
theorem maybe_ok : maybeG.ok := ok_b (g := maybeG) (by decide +kernel)
theorem maybe_sm : Sm 2 20 maybeD := by
  have h : (PyData.canLay0 maybeD && (decide (maybeD.depth ≤ 2) && (decide (maybeD.weight ≤ 20) && (maybeD.showable && maybeD.intsShort 13)))) = true := by decide +kernel
  simp only [Bool.and_eq_true, decide_eq_true_eq] at h
  exact ⟨h.1, h.2.1, h.2.2.1, h.2.2.2.1, h.2.2.2.2⟩
theorem sm_cn {b : Bool} {x y : PyData} {j m j2 m2 : Nat} (h1 : Sm j m x) (h2 : Sm j2 m2 y) : Sm (max j j2 + 1) (m + m2 + 20) (.tuple [.str (cnW b), x, y]) := by
  have n0 : SmL (max j j2) 0 [] := sml_nil
  exact (((tinyW_sm (tiny_cnW b)).cons (h1.cons (h2.cons n0 (Nat.le_max_right _ _)) (Nat.le_max_left _ _)) (Nat.zero_le _)).tuple).mono (Nat.le_refl _) (by omega)
def endsQ : List Qn := [.qu false "y" (.tr true), .qu true "x" (.sm "x" "x"), .qu true "y" (.sm "y" "y")]
theorem ends_ok : ∀ e ∈ endsQ, (Gn.ofQ e).ok ∧ e.dep ≤ 1 ∧ e.sz ≤ 2 ∧ Sm 2 40 e.d := by
  have sm : ∀ {d : PyData}, (PyData.canLay0 d && (decide (d.depth ≤ 2) && (decide (d.weight ≤ 40) && (d.showable && d.intsShort 13)))) = true → Sm 2 40 d := fun h => by
    simp only [Bool.and_eq_true, decide_eq_true_eq] at h
    exact ⟨h.1, h.2.1, h.2.2.1, h.2.2.2.1, h.2.2.2.2⟩
  intro e he
  simp only [endsQ, List.mem_cons, List.not_mem_nil, or_false] at he
  rcases he with rfl | rfl | rfl <;> exact ⟨ok_b (by decide +kernel), by decide, by decide, sm (by decide +kernel)⟩
end DQ

set_option Elab.async false
set_option linter.all false
set_option maxRecDepth 100000
set_option maxHeartbeats 4000000
namespace DQ
open PySem PySem.Spec PyProof.Rows L2
/-! ### law -/
abbrev sLaw : Stmt := topS 51
abbrev NLw : List Str := ["script", "generator", "marks", "columns", "question", "place", "part", "parts_v", "due", "told", "turn", "bent", "more", "ends", "value"]
theorem scLaw : FnScope NLw ["script"] (defScope sLaw) := ⟨rfl, rfl, rfl, by decide +kernel, rfl, by decide +kernel, by decide +kernel⟩
theorem call_reprZK {X : Cx} {K : PySem.W.Frag} (hk : X.K = K) (hu : X.A.units + 65 < cLine) (hg : X.A.guards = some []) : CallR X (.builtin "repr") (rReprZ K) := by
  subst hk
  exact call_reprZ hu hg
section
variable {X : Cx} {o e : Expr} {es : List Expr} {to : TE} {t : TA} {name : Str} {apos cpos : Pos} {T id : String} {r : V → List V → Hp → VK → Prop}
theorem pe_bmK {K : PySem.W.Frag} (hk : X.K = K) (pa : PlainAttrs T) (slot : Slot T name id) (hty : typeOf (.builtin id) = pure (.type "method_descriptor")) (hm : MtR X id r) (ho : PE X o to) (ha : PA X (e :: es) t)
    (h1 : attributeBase o name X.env (eval o X.env) = eval o X.env := by rfl) (h2 : ((backTo cpos (starEach (e :: es) X.env)).all (fun x => !x.1) && (backToKw cpos (keywordEach [] X.env)).all (fun x => x.1.isSome) && decide ((e :: es).length + ([] : List Keyword).length + (if ([] : List Keyword).isEmpty then 0 else 1) < 30)) = true := by rfl)
    (h3 : (apos.endLine == cpos.line) = true := by rfl) (h4 : starEach (e :: es) X.env = (false, eval e X.env) :: starEach es X.env := by rfl) (h5 : (backTo cpos (starEach es X.env)).any (·.1) = false := by rfl) : PE X (.Call (.Attribute o name apos) (e :: es) [] cpos) (tBM K T r to t) := by
  subst hk
  exact pe_bm pa slot hty hm ho ha h1 h2 h3 h4 h5
end
section
variable {P : Program} {w : World} {K : PySem.W.Frag} {mg : Str → Option Value} {base : Heap}
theorem same_over {H J : Hp} {p : Addr} {o : HO} (s : Same H J) (n : H p = none) : Same H (L2.upd J p o) := fun b x h => (upd_ne (fun e => by rw [e, n] at h; cases h)).trans (s _ _ h)
theorem sqT_over {J : Hp} {p a : Addr} {xs ys : List V} {o : HO} (h : SqT K J a xs) (e : J p = some (.lst ys)) : SqT K (L2.upd J p o) a xs := by
  rcases h with (h | ⟨w, h⟩) | h
  · exact .inl (.inl ((upd_ne (fun z => by rw [z, e] at h; cases h)).trans h))
  · exact .inl (.inr ⟨w, (upd_ne (fun z => by rw [z, e] at h; cases h)).trans h⟩)
  · exact .inr h
theorem seq_app {to : TE} {ta : TA} {t2 : TS} {D : Ends} {σ : L2.St} {H : Hp} (h : to σ H fun x H1 => tyV K "list" x H1 ∧ ta σ H1 fun xs H2 => rAppend x xs H2 fun _ H3 => t2 D σ H3) : tSeq (tDrop (tBM K "list" rAppend to ta)) t2 D σ H := h
theorem repr_arg {te : TE} {σ : L2.St} {H : Hp} {R : VK} (h : te σ H fun x J => rReprZ K [x] J R) : tCB (rReprZ K) (tCons te tNil) σ H R := h
theorem unless_read {sp : Sp} {u v : TS} {D : Ends} {σ : L2.St} {H : Hp} (h : sp [] H (fun x H2 => ∃ b, x = .bl b ∧ (if (!b) = true then u D σ H2 else v D σ H2)) E0) : tIfS (tNot (tB (tCall sp [] E0 tNil))) u v D σ H := h
def spLaw (K : PySem.W.Frag) : Sp := fun vs H Q _ => ∃ (a : Addr) (ns : List Int), vs = [.ref a] ∧ SqL K H a (ns.map V.int) ∧ ∀ H', Q (.bl true) H'
abbrev rFreeN (K : PySem.W.Frag) : Gn → V → Hp → Hp → Prop := fun g x H H' => ∃ p, x = .ref p ∧ Same H H' ∧ H p = none ∧ H' p = some (.lst ((freeQ g.toQ).map V.str))
abbrev rSigns (K : PySem.W.Frag) : Gn → V → Hp → Hp → Prop := fun g x H H' => ∃ t p1 p2, x = .ref t ∧ Same H H' ∧ H p1 = none ∧ H p2 = none ∧ p1 ≠ p2 ∧ SqT K H' t [.ref p1, .ref p2] ∧ H t = none ∧ H' p1 = some (.lst ((signsQ markG g).map V.str)) ∧ H' p2 = some (.lst ((signsQ linkG g).map V.str))
abbrev rDep : Gn → V → Hp → Hp → Prop := fun g x H H' => x = .int (qd g.toQ : Nat) ∧ Same H H'
theorem ok_law {f fG fWr fR fQ fJ fI fP fN fS fD fF fL fU fO : Addr} {fd dG dWr dR dQ dJ dI dP dN dS dD dF dL dU dO : FuncData} (F : Fun K "law" "law" sLaw f fd)
    (GG : FnOk P w K mg base CX0 2 fG dG ["script", "index"] (spGenerator K)) (bG : Binds K dG ["script", "index"] []) (kG : PySem.W.keepIn K (.ref fG) = true) (mG : mg "_law_generator" = some (.ref fG))
    (GWr : FnOk P w K mg base CX0 10 fWr dWr [] spWritten) (bWr : Binds K dWr [] []) (kWr : PySem.W.keepIn K (.ref fWr) = true) (mWr : mg "_law_written_right" = some (.ref fWr))
    (GR : FnOk P w K mg base CX0 2 fR dR ["generator", "bound"] spRandom) (bR : Binds K dR ["generator", "bound"] []) (kR : PySem.W.keepIn K (.ref fR) = true) (mR : mg "_law_random" = some (.ref fR))
    (GQ : FnOk P w K mg base CX0 22 fQ dQ PQu (spQuest K)) (bQ : Binds K dQ PQu []) (kQ : PySem.W.keepIn K (.ref fQ) = true) (mQ : mg "_law_drawn_question" = some (.ref fQ))
    (GJ : FnG P w K mg base CX0 37 fJ dJ ["value"] (spJudged K)) (bJ : Binds K dJ ["value"] []) (kJ : PySem.W.keepIn K (.ref fJ) = true) (mJ : mg "_law_judged_right" = some (.ref fJ))
    (GI : FnOk P w K mg base CX0 6 fI dI ["value"] (spIsQ K)) (bI : Binds K dI ["value"] []) (kI : PySem.W.keepIn K (.ref fI) = true) (mIq : mg "is_question" = some (.ref fI))
    (GP : FnOk P w K mg base CX0 32 fP dP ["value", "place"] (spPlaces K 30)) (bP : Binds K dP ["value", "place"] []) (kP : PySem.W.keepIn K (.ref fP) = true) (mP : mg "_law_places" = some (.ref fP))
    (GN : FnOk P w K mg base CX0 9 fN dN ["question"] (spAskQ K (rFreeN K))) (bN : Binds K dN ["question"] []) (kN : PySem.W.keepIn K (.ref fN) = true) (mN : mg "free_names" = some (.ref fN)) (kbN : KBn K dN ["question"] 0 ["question"] (fun us ws => us ++ ws) (fun us ws => us ++ ws))
    (GS : FnOk P w K mg base CX0 9 fS dS ["question"] (spAskQ K (rSigns K))) (bS : Binds K dS ["question"] []) (kS : PySem.W.keepIn K (.ref fS) = true) (mS : mg "signs" = some (.ref fS)) (kbS : KBn K dS ["question"] 0 ["question"] (fun us ws => us ++ ws) (fun us ws => us ++ ws))
    (GD : FnOk P w K mg base CX0 9 fD dD ["question"] (spAskQ K rDep)) (bD : Binds K dD ["question"] []) (kD : PySem.W.keepIn K (.ref fD) = true) (mD : mg "depth" = some (.ref fD)) (kbD : KBn K dD ["question"] 0 ["question"] (fun us ws => us ++ ws) (fun us ws => us ++ ws))
    (GF : FnOk P w K mg base CX0 35 fF dF ["question"] (spFree K 30)) (bF : Binds K dF ["question"] []) (kF : PySem.W.keepIn K (.ref fF) = true) (mF : mg "_law_free" = some (.ref fF))
    (GL : FnOk P w K mg base CX0 35 fL dL ["question"] (spDepth K 30)) (bL : Binds K dL ["question"] []) (kL : PySem.W.keepIn K (.ref fL) = true) (mL : mg "_law_depth" = some (.ref fL))
    (GU : FnOk P w K mg base CX0 31 fU dU ["value", "place", "new"] (spPut K 30)) (bU : Binds K dU ["value", "place", "new"] []) (kU : PySem.W.keepIn K (.ref fU) = true) (mU : mg "_law_put" = some (.ref fU))
    (GO : FnOk P w K mg base CX0 3 fO dO ["generator", "part"] (spOdd K)) (bO : Binds K dO ["generator", "part"] []) (kO : PySem.W.keepIn K (.ref fO) = true) (mO : mg "_law_odd" = some (.ref fO))
    (mLen : mg "len" = none) (mSorted : mg "sorted" = none) (mSet : mg "set" = none) (mRepr : mg "repr" = none) (mRange : mg "range" = none) (mI : mg "isinstance" = none) (mTuple : mg "tuple" = none) : FnG P w K mg base CX0 38 f fd ["script"] (spLaw K) := by
  refine fun_okG F scLaw (fun vs H Q E h => ?_) (fun cdv A outer s H vs Q E hr hG h => ?_)
  · obtain ⟨_, _, rfl, _⟩ := h
    rfl
  obtain ⟨a, ns, rfl, hs, q⟩ := h
  have nd := scLaw.nd
  have u65 := room65 hr
  refine ⟨_, (pss_cons (ps_set (i := 1) nd rfl (.inl rfl) (pe_call GG (hr.mono (by decide)) rfl mG kG bG .nil pass0 (pa_cons (pv 0) (pa_cons pe_int pa_nil))))
     (pss_cons (ps_if (pt_not (pt_val (pe_call0 GWr (hr.mono (by decide)) rfl mWr kWr bWr .nil pass0))) (pss_one (ps_ret pe_bl)) pss_nil)
     (pss_cons (ps_par (i := 2) (j := 3) rfl nd rfl rfl (by decide) rfl rfl (pa_cons (pe_slice (r := rSlL K) sl_list (pe_lst (pa_cons pe_str (pa_cons pe_str (pa_cons pe_str pa_nil)))) po_none (po_some (pe_call GR (hr.mono (by decide)) rfl mR kR bR .nil pass0 (pa_cons (pv 1) (pa_cons pe_int pa_nil))))) (pa_cons (pe_slice (r := rSlL K) sl_list (pe_lst (pa_cons pe_str (pa_cons pe_str pa_nil))) po_none (po_some (pe_call GR (hr.mono (by decide)) rfl mR kR bR .nil pass0 (pa_cons (pv 1) (pa_cons pe_int pa_nil))))) pa_nil)) (by rfl))
     (pss_cons (ps_set (i := 4) nd rfl (.inl rfl) (pe_call GQ (hr.mono (by decide)) rfl mQ kQ bQ .nil pass0 (pa_cons (pv 1) (pa_cons (pv 2) (pa_cons (pv 3) (pa_cons (pe_slice (r := rSlL K) sl_list (pe_lst (pa_cons pe_str (pa_cons pe_str pa_nil))) po_none (po_some (pe_call GR (hr.mono (by decide)) rfl mR kR bR .nil pass0 (pa_cons (pv 1) (pa_cons pe_int pa_nil))))) (pa_cons (pe_call GR (hr.mono (by decide)) rfl mR kR bR .nil pass0 (pa_cons (pv 1) (pa_cons pe_int pa_nil))) pa_nil)))))))
     (pss_cons (ps_if (PW.pt (pw_or (pt_not (pt_val (pe_callGd GJ (hr.mono (by decide)) hG (by rfl) mJ kJ bJ .nil pass0 (pa_cons (pv 4) pa_nil)))) (pw_or1 (pt_cmpR op_notBl (pe_call GI (hr.mono (by decide)) rfl mIq kI bI .nil pass0 (pa_cons (pv 4) pa_nil)) pe_bl (nomark _))))) (pss_one (ps_ret pe_bl)) pss_nil)
     (pss_cons (ps_setLc (i := 7) (own := [("place", 5), ("part", 6)]) (g := gTup K 2 (gCons (gName 5) (gCons (gName 6) gNil))) (tt := tYes) rfl nd rfl rfl (sw_true rfl rfl rfl (by decide +kernel)) (pi_list (pe_call GP (hr.mono (by decide)) rfl mP kP bP .nil pass0 (pa_cons (pv 4) (pa_cons (pe_tup pa_nil) pa_nil)))) (blkOk_by (own := [("place", 5), ("part", 6)]) (N := NLw) (sc := defScope sLaw) (by decide +kernel)) (fun _ _ _ _ _ => pg_tup rfl (pgs_cons (pg_name (i := 5) nd rfl (Or.inl rfl)) (pgs_cons (pg_name (i := 6) nd rfl (Or.inl rfl)) pgs_nil))) (fun _ _ _ _ _ => pts_nil) (fun _ _ _ _ _ => (pv 6)))
     (pss_cons (ps_set (i := 8) nd rfl (.inl rfl) (pe_tup (pa_cons (pe_callB (r := rSortX P w) (cr_sortX rfl hr.units) (by rfl) mSorted (by decide +kernel) (pa_cons (pe_callTy (r := rSetX P w K) (cr_setX rfl) (by rfl) mSet (by decide +kernel) (pa_cons (pe_lc (own := [("part", 6)]) (g := gName 6) rfl nd (pi_list (pv 7)) (blkOk_by (own := [("part", 6)]) (N := NLw) (sc := defScope sLaw) (by decide +kernel)) (fun _ _ _ _ _ => pg_name (i := 6) nd rfl (Or.inl rfl)) (fun _ _ _ _ _ => pts_one (pt_cmpR op_eq (pe_ix (r := rIxT K) ix_tup (pv 6) pe_int (fun _ _ => rfl)) pe_str (nomark _))) (fun _ _ _ _ _ => (pe_ix (r := rIxT K) ix_tup (pv 6) pe_int (fun _ _ => rfl)))) pa_nil)) pa_nil)) (pa_cons (pe_callB (r := rSortX P w) (cr_sortX rfl hr.units) (by rfl) mSorted (by decide +kernel) (pa_cons (pe_callTy (r := rSetX P w K) (cr_setX rfl) (by rfl) mSet (by decide +kernel) (pa_cons (pe_lc (own := [("part", 6)]) (g := gName 6) rfl nd (pi_list (pv 7)) (blkOk_by (own := [("part", 6)]) (N := NLw) (sc := defScope sLaw) (by decide +kernel)) (fun _ _ _ _ _ => pg_name (i := 6) nd rfl (Or.inl rfl)) (fun _ _ _ _ _ => pts_one (pt_cmpR op_eq (pe_ix (r := rIxT K) ix_tup (pv 6) pe_int (fun _ _ => rfl)) pe_str (nomark _))) (fun _ _ _ _ _ => (pe_ix (r := rIxT K) ix_tup (pv 6) pe_int (fun _ _ => rfl)))) pa_nil)) pa_nil)) pa_nil))))
     (pss_cons (ps_set (i := 9) nd rfl (.inl rfl) (pe_lst (pa_cons (pe_call GN (hr.mono (by decide)) rfl mN kN bN .nil pass0 (pa_cons (pv 4) pa_nil)) (pa_cons (pe_call GS (hr.mono (by decide)) rfl mS kS bS .nil pass0 (pa_cons (pv 4) pa_nil)) (pa_cons (pe_call GD (hr.mono (by decide)) rfl mD kD bD .nil pass0 (pa_cons (pv 4) pa_nil)) pa_nil)))))
     (pss_cons (ps_if (pt_cmpR op_ne (pe_callB (id := "repr") (r := rReprZ K) (call_reprZK (K := K) rfl u65 hG) (by rfl) mRepr (by decide +kernel) (pa_cons (pv 9) pa_nil)) (pe_callB (id := "repr") (r := rReprZ K) (call_reprZK (K := K) rfl u65 hG) (by rfl) mRepr (by decide +kernel) (pa_cons (pe_lst (pa_cons (pe_call GF (hr.mono (by decide)) rfl mF kF bF .nil pass0 (pa_cons (pv 4) pa_nil)) (pa_cons (pv 8) (pa_cons (pe_call GL (hr.mono (by decide)) rfl mL kL bL .nil pass0 (pa_cons (pv 4) pa_nil)) pa_nil)))) pa_nil)) (nomark _)) (pss_one (ps_ret pe_bl)) pss_nil)
     (pss_cons (ps_expr (pe_bm PySem.F.plainAttrs_list PySem.F.slot_list_append PySem.F.type_list_append mt_append (pe_ix (r := rIxL K) ix_list (pv 9) pe_int (fun _ _ => rfl)) (pa_cons pe_non pa_nil)))
     (pss_cons (ps_expr (pe_bm PySem.F.plainAttrs_list PySem.F.slot_list_append PySem.F.type_list_append mt_append (pe_ix (r := rIxT K) ix_tup (pe_ix (r := rIxL K) ix_list (pv 9) pe_int (fun _ _ => rfl)) pe_int (fun _ _ => rfl)) (pa_cons pe_non pa_nil)))
     (pss_cons (ps_expr (pe_bm PySem.F.plainAttrs_list PySem.F.slot_list_append PySem.F.type_list_append mt_append (pe_ix (r := rIxT K) ix_tup (pe_ix (r := rIxL K) ix_list (pv 9) pe_int (fun _ _ => rfl)) pe_int (fun _ _ => rfl)) (pa_cons pe_non pa_nil)))
     (pss_cons (ps_if (pt_cmpR (r := rNeD K) (op_neD hr.units) (pe_lst (pa_cons (pe_callK1 GN (hr.mono (by decide)) rfl mN kN kbN (pk_cons (pv 4) pk_nil)) (pa_cons (pe_callK1 GS (hr.mono (by decide)) rfl mS kS kbS (pk_cons (pv 4) pk_nil)) (pa_cons (pe_callK1 GD (hr.mono (by decide)) rfl mD kD kbD (pk_cons (pv 4) pk_nil)) pa_nil)))) (pe_lst (pa_cons (pe_call GF (hr.mono (by decide)) rfl mF kF bF .nil pass0 (pa_cons (pv 4) pa_nil)) (pa_cons (pv 8) (pa_cons (pe_call GL (hr.mono (by decide)) rfl mL kL bL .nil pass0 (pa_cons (pv 4) pa_nil)) pa_nil)))) (nomark _)) (pss_one (ps_ret pe_bl)) pss_nil)
     (pss_cons (ps_for (passes_of rfl) rfl (pi_range1 (by rfl) mRange (pa_cons pe_int pa_nil)) (pg_name (i := 10) nd rfl (.inl rfl)) (pss_cons (ps_asg (pe_ix (r := rIxL K) ix_list (pe_call GP (hr.mono (by decide)) rfl mP kP bP .nil pass0 (pa_cons (pv 4) (pa_cons (pe_tup pa_nil) pa_nil))) (pe_call GR (hr.mono (by decide)) rfl mR kR bR .nil pass0 (pa_cons (pv 1) (pa_cons (pe_callB (r := rLenQ K) call_len_seq (by rfl) mLen PySem.boot_len (pa_cons (pv 7) pa_nil)) pa_nil))) (fun _ _ => rfl)) (pg_tup rfl (pgs_cons (pg_name (i := 5) nd rfl (.inl rfl)) (pgs_cons (pg_name (i := 6) nd rfl (.inl rfl)) pgs_nil)))) (pss_cons (ps_set (i := 11) nd rfl (.inl rfl) (pe_call GU (hr.mono (by decide)) rfl mU kU bU .nil pass0 (pa_cons (pv 4) (pa_cons (pv 5) (pa_cons (pe_call GO (hr.mono (by decide)) rfl mO kO bO .nil pass0 (pa_cons (pv 1) (pa_cons (pv 6) pa_nil))) pa_nil))))) (pss_cons (ps_set (i := 12) nd rfl (.inl rfl) (pe_ifExp (PW.pt (pw_or (pt_cmpR op_lt (pv 10) pe_int (nomark _)) (pw_or1 (pt_not (pt_val (pe_callB (id := "isinstance") (r := rIsi K) call_isi (by rfl) mI (by decide +kernel) (pa_cons (pv 11) (pa_cons (pe_bltn (v := .ty "tuple") (by rfl) mTuple (by decide +kernel) rfl) pa_nil)))))))) (pe_lst (pa_cons (pv 11) pa_nil)) (pe_lst (pa_cons (pe_tup (pa_cons pe_str (pa_cons (pv 11) (pa_cons (pe_tup (pa_cons pe_str (pa_cons pe_str (pa_cons (pe_tup (pa_cons pe_str pa_nil)) pa_nil)))) pa_nil)))) (pa_cons (pe_tup (pa_cons pe_str (pa_cons (pv 4) (pa_cons (pv 11) pa_nil)))) pa_nil))))) (pss_cons (ps_set (i := 13) nd rfl (.inl rfl) (pe_lst (pa_cons (pe_tup (pa_cons pe_str (pa_cons pe_str (pa_cons (pe_tup (pa_cons pe_str pa_nil)) pa_nil)))) (pa_cons (pe_tup (pa_cons pe_str (pa_cons pe_str (pa_cons (pe_tup (pa_cons pe_str (pa_cons pe_str (pa_cons pe_str pa_nil)))) pa_nil)))) (pa_cons (pe_tup (pa_cons pe_str (pa_cons pe_str (pa_cons (pe_tup (pa_cons pe_str (pa_cons pe_str (pa_cons pe_str pa_nil)))) pa_nil)))) pa_nil))))) (pss_cons (ps_expr (pe_bm PySem.F.plainAttrs_list PySem.F.slot_list_append PySem.F.type_list_append mt_append (pv 12) (pa_cons (pe_tup (pa_cons pe_str (pa_cons (pe_ix (r := rIxL K) ix_list (pv 13) (pe_call GR (hr.mono (by decide)) rfl mR kR bR .nil pass0 (pa_cons (pv 1) (pa_cons pe_int pa_nil))) (fun _ _ => rfl)) (pa_cons (pe_tup (pa_cons pe_str (pa_cons (pe_ix (r := rIxL K) ix_list (pv 13) (pe_call GR (hr.mono (by decide)) rfl mR kR bR .nil pass0 (pa_cons (pv 1) (pa_cons pe_int pa_nil))) (fun _ _ => rfl)) (pa_cons (pv 4) pa_nil)))) pa_nil)))) pa_nil))) (pss_one (ps_if (pt_cmpR (r := rNeD K) (op_neD hr.units) (pe_lc (own := [("value", 14)]) (g := gName 14) rfl nd (pi_list (pv 12)) (blkOk_by (own := [("value", 14)]) (N := NLw) (sc := defScope sLaw) (by decide +kernel)) (fun _ _ _ _ _ => pg_name (i := 14) nd rfl (Or.inl rfl)) (fun _ _ _ _ _ => pts_one (PW.pt (pw_and (pt_cmpR op_lt (pe_bmK (K := K) rfl PySem.F.plainAttrs_str PySem.F.slot_str_count PySem.F.type_str_count mt_count (pe_callB (id := "repr") (r := rReprZ K) (call_reprZK (K := K) rfl u65 hG) (by rfl) mRepr (by decide +kernel) (pa_cons (pv 14) pa_nil)) (pa_cons pe_str pa_nil)) pe_int (nomark _)) (pw_and1 (pt_not (pt_val (pe_callGd GJ (hr.mono (by decide)) hG (by rfl) mJ kJ bJ .nil pass0 (pa_cons (pv 14) pa_nil)))))))) (fun _ _ _ _ _ => (pv 14))) (pe_lst pa_nil) (nomark _)) (pss_one (ps_ret pe_bl)) pss_nil))))))))
     (pss_one (ps_ret pe_bl)))))))))))))))), ?_⟩
  refine seq_te (fun y H' => ∃ g, y = .ref g ∧ Gen H' g 0) (fun R hR => ⟨_, rfl, (show spGenerator K [.ref a, .int 0] H R E0 from ⟨a, ns, 0, rfl, by decide, hs, fun p H' _ _ G => hR _ _ ⟨p, rfl, G⟩⟩)⟩) fun y H1 ⟨g, ey, G1⟩ => ?_
  subst ey
  show tSeq (tIfS _ _ _) _ _ [some (V.ref a), some (.ref g), none, none, none, none, none, none, none, none, none, none, none, none, none] H1
  refine seq_any (fun σ' H' => σ' = [some (V.ref a), some (.ref g), none, none, none, none, none, none, none, none, none, none, none, none, none] ∧ Gen H' g 0) (fun D' rt' nx' => ?_) fun σ' H2 ⟨eσ, G2⟩ => ?_
  · exact unless_read ⟨rfl, fun H2 s2 => ⟨_, rfl, iteF' rfl (nx' _ _ ⟨rfl, G1.same s2⟩)⟩⟩
  subst eσ
  -- marks, columns
  refine seq_par (fun x y H' => ∃ m c i j, x = .ref m ∧ y = .ref c ∧ m ≠ g ∧ c ≠ g ∧ H' m = some (.lst (([("red" : Str), "blue", "gold"].take i).map V.str)) ∧ H' c = some (.lst (([("next" : Str), "below"].take j).map V.str)) ∧ Gen H' g 6) (fun R hR => ?_) fun x y H3 ⟨m, c, i, j, ex, ey, nm, nc, em, ec, G3⟩ => ?_
  · refine take_read ["red", "blue", "gold"] (by decide) rfl G2 (by decide) (by decide) (by decide) fun m i J nm em GJ kJ => ?_
    refine take_read ["next", "below"] (by decide) rfl GJ (by decide) (by decide) (by decide) fun c j J2 nc ec GJ2 kJ2 => ?_
    exact hR _ _ _ ⟨m, c, i, j, rfl, rfl, nm, nc, kJ2 _ _ nm em, ec, GJ2⟩
  subst ex
  subst ey
  show tSeq _ _ _ [some (V.ref a), some (.ref g), some (.ref m), some (.ref c), none, none, none, none, none, none, none, none, none, none, none] H3
  generalize hms : [("red" : Str), "blue", "gold"].take i = ms at em
  generalize hcs : [("next" : Str), "below"].take j = cs at ec
  have inM : ∀ x ∈ ms, x = "red" ∨ x = "blue" ∨ x = "gold" := fun x hx => by
    rw [← hms] at hx
    have := List.mem_of_mem_take hx
    simpa using this
  have inC : ∀ x ∈ cs, x = "next" ∨ x = "below" := fun x hx => by
    rw [← hcs] at hx
    have := List.mem_of_mem_take hx
    simpa using this
  have fewM : ms.length ≤ 3 := by rw [← hms, List.length_take]; show min i 3 ≤ 3; omega
  have fewC : cs.length ≤ 2 := by rw [← hcs, List.length_take]; show min j 2 ≤ 2; omega
  refine seq_te (fun y H' => ∃ (ns : List Str) (k : Nat) (q : Qn), DrawnQ ms cs ns k q ∧ k ≤ 4 ∧ (∀ x ∈ ns, x = "y" ∨ x = "x") ∧ Dp K H' y q.d ∧ Gen H' g 2000012) (fun R hR => ?_) fun v H4 ⟨ns, k, qn, dq, k4, inN, dv, G4⟩ => ?_
  · refine ⟨.ref g, rfl, .ref m, rfl, .ref c, rfl, take_read ["y", "x"] (by decide) rfl G3 (by decide) (by decide) (by decide) fun t l J nt et GJ kJ => ?_⟩
    refine rand_at rfl GJ (by decide) (by decide) (by decide) fun r J2 r5 GJ2 bt => ?_
    refine nil_read (show spQuest K [.ref g, .ref m, .ref c, .ref t, .int (r : Nat)] J2 R E0 from ?_)
    have kk := kJ.trans (Keep.of_but bt)
    have inT : ∀ x ∈ [("y" : Str), "x"].take l, x = "y" ∨ x = "x" := fun x hx => by
      have := List.mem_of_mem_take hx
      simpa using this
    refine ⟨g, m, c, t, ms, cs, [("y" : Str), "x"].take l, r, 12, rfl, SqL.of (kk _ _ nm em), SqL.of (kk _ _ nc ec), SqL.of ((bt t nt).trans et), nm, nc, nt, by omega, by omega, by rw [List.length_take]; show min l 2 + r ≤ 10; omega, fun x hx => ?_, by omega, GJ2, by decide, fun v qn J3 dq k3 G3' dp => hR _ _ ⟨_, r, qn, dq, by omega, inT, dp, G3'⟩⟩
    rcases hx with hx | hx | hx
    · rcases inM x hx with e | e | e <;> (rw [e]; decide +kernel)
    · rcases inC x hx with e | e <;> (rw [e]; decide +kernel)
    · rcases inT x hx with e | e <;> (rw [e]; decide +kernel)
  show tSeq (tIfS _ _ _) _ _ [some (V.ref a), some (.ref g), some (.ref m), some (.ref c), some v, none, none, none, none, none, none, none, none, none, none] H4
  -- what is known of the question
  obtain ⟨p, p1, p12, p9, dq⟩ := dq
  have tiny : ∀ x, x ∈ ms ∨ x ∈ cs ∨ x ∈ ns → TinyW x := fun x hx => by
    rcases hx with hx | hx | hx
    · rcases inM x hx with e | e | e <;> (rw [e]; exact ⟨by decide +kernel, by decide +kernel⟩)
    · rcases inC x hx with e | e <;> (rw [e]; exact ⟨by decide +kernel, by decide +kernel⟩)
    · rcases inN x hx with e | e <;> (rw [e]; exact ⟨by decide +kernel, by decide +kernel⟩)
  have okG : (Gn.ofQ qn).ok := drawn_ok dq fun x hx => by
    rcases hx with hx | hx | hx
    · rcases inM x hx with e | e | e <;> (rw [e]; decide +kernel)
    · rcases inC x hx with e | e <;> (rw [e]; decide +kernel)
    · rcases inN x hx with e | e <;> (rw [e]; decide +kernel)
  have depQ : qn.dep ≤ 16 := by have := dq_dep dq; omega
  have szQ : qn.sz ≤ 179 := by
    have h1 := dq_sz dq
    have h2 : fB p k ≤ 179 := by
      unfold fB
      rw [if_neg (by omega)]
      have : 3 * p * (k + 1) ≤ 36 * 5 := Nat.mul_le_mul (by omega) (by omega)
      omega
    omega
  have smQ : Sm 17 9000 qn.d := (dq_sm dq tiny).mono (by omega) (by omega)
  have due0 : dueG (Gn.ofQ qn) = none := due_drawn dq k4 inN
  have eqd := ofQ_d qn
  have smG : Sm 17 9000 (Gn.ofQ qn).d := by rw [eqd]; exact smQ
  have goodG : (Gn.ofQ qn).good := ⟨okG, smG.shaped (by decide)⟩
  have depG : (Gn.ofQ qn).dep ≤ 16 := by rw [ofQ_dep]; exact depQ
  have szG : (Gn.ofQ qn).sz ≤ 179 := by rw [ofQ_sz]; exact szQ
  have toQ := toQ_ofQ qn
  have dv : Dp K H4 v (Gn.ofQ qn).d := by rw [eqd]; exact dv
  generalize hGq : Gn.ofQ qn = GQ at *
  have clean : Clean (preG GQ [] []) := by
    have f : fw1 GQ [] [] = none := by
      cases h : fw1 GQ [] [] with
      | none => rfl
      | some r => unfold dueG at due0; rw [h] at due0; cases due0
    exact fun e he => ⟨pre_good GQ [] [] goodG e he, scan_none.mp f e he⟩
  have lenP : (preG GQ [] []).length = GQ.sz := pre_len GQ [] []
  have sz1000 : GQ.sz ≤ 1000 := by omega
  have judge : ∀ {J : Hp} {R : VK}, Dp K J v GQ.d → (∀ J', Same J J' → R (.bl true) J') → spJudged K [v] J R E0 := fun {J R} d r => ⟨v, GQ, rfl, d, okG, smG.mono (by decide) (by decide), by omega, sz1000, r⟩
  refine seq_any (fun σ' H' => σ' = [some (V.ref a), some (.ref g), some (.ref m), some (.ref c), some v, none, none, none, none, none, none, none, none, none, none] ∧ Same H4 H') (fun D' rt' nx' => ?_) fun σ' H5 ⟨eσ, s5⟩ => ?_
  · refine ⟨v, rfl, nil_read (judge dv fun J s => ⟨_, rfl, iteF' rfl ?_⟩)⟩
    refine ⟨v, rfl, nil_read (show spIsQ K [v] J _ E0 from ⟨v, GQ, rfl, dp_same s _ _ dv, goodG, sz1000, fun J2 s2 => ⟨_, _, rfl, rfl, _, rfl, ?_⟩⟩)⟩
    rw [due0]
    exact iteF' rfl (nx' _ _ ⟨rfl, s.trans s2⟩)
  subst eσ
  have dv := dp_same s5 _ _ dv
  have G5 := G4.same s5
  -- parts_v
  refine seq_te (fun y H' => ∃ pv xs, y = .ref pv ∧ Same H5 H' ∧ pv ≠ g ∧ H' pv = some (.lst xs) ∧ DpAll K H' xs ((preG GQ [] []).map fun e => e.g.d)) (fun R hR => ?_) fun y H6 ⟨pv, xs, ey, s6, npv, epv, al⟩ => ?_
  · refine ⟨v, rfl, Nat.zero_le _, fun p np => ?_⟩
    have sp := same_new np (o := .tup [])
    refine nil_read (show spPlaces K 30 [v, .ref p] _ _ E0 from ⟨v, p, ⟨GQ, [], []⟩, rfl, dp_same sp _ _ dv, goodG, fun k hk => (clean k hk).2, by show GQ.dep < 30; omega, sz1000, SqT.of upd_same, by show 0 + GQ.dep ≤ 1000; omega, fun l ws J sJ nl el pls => ⟨l, rfl, ⟨_, SqL.of el⟩, fun D nD => ?_⟩⟩)
    have pls : Plcs K J ws (preG GQ [] []) := pls
    have lws := pls.len
    obtain ⟨pl, vals, d1, d2, at_⟩ := plcs_split pls
    have l2 := dpAll_len d2
    rw [List.length_map] at l2
    refine lc_opts (walk_list (K := K) (a := l) (xs := ws)) (vals.map some) (by rw [List.length_map]; omega) (by rw [sizeLine_eq]; omega) nD (fun H' s' => SqL.of (s' _ _ el)) (fun _ _ _ _ y => by rw [y.1]; exact fun _ _ h => h) (fun k x J9 J' o hk ho s' y R' N hR' hN => ?_) fun J2 s2 e2 => ?_
    · obtain ⟨rfl, hx⟩ := y
      obtain ⟨b, x1, y1, rfl, g1, g2, ha⟩ := at_ k x hx
      rw [List.getElem?_map, g2] at ho
      injection ho with ho
      exact ⟨b, _, rfl, sqT_same s' ha, rfl, _, _, rfl, _, _, rfl, rfl, rfl, _, rfl, hR' _ _ ho.symm (Same.refl _)⟩
    · rw [List.filterMap_map, show ((id : Option V → Option V) ∘ some) = some from rfl, List.filterMap_some] at e2
      have s02 := (sp.trans sJ).trans s2
      refine hR _ _ ⟨D, vals, rfl, s02, ?_, e2, dpAll_same s2 _ _ d2⟩
      exact ((G5.same (sp.trans sJ))).ne nD
  subst ey
  have lxs : xs.length = GQ.sz := by have := dpAll_len al; rw [List.length_map, lenP] at this; exact this
  show tSeq (tAsg _ _) _ _ [some (V.ref a), some (.ref g), some (.ref m), some (.ref c), some v, none, none, some (.ref pv), none, none, none, none, none, none, none] H6
  -- due
  have few3 : ∀ {fn : Gn → Option Str}, ((preG GQ [] []).filterMap fun e => fn e.g).length ≤ 1000 := fun {fn} => by
    have := List.length_filterMap_le (fun e : En => fn e.g) (preG GQ [] [])
    omega
  refine seq_te (fun y H' => Same H6 H' ∧ Dp K H' y (.tuple [.list ((signsQ markG GQ).map PyData.str), .list ((signsQ linkG GQ).map PyData.str)])) (fun R hR => ?_) fun y H7 ⟨s7, dd⟩ => ?_
  · refine sort_set (P := P) (w := w) (K := K) (Nat.le_trans (few3 (fn := markG)) (by decide)) (fun R' q' => kind_comp word_mark (fun x => ⟨rfl, rfl⟩) rfl epv al clean (by omega) fun D J s _ e => q' D J s (SqL.of e)) fun p1 J1 s1 n1 e1 => ?_
    refine sort_set (P := P) (w := w) (K := K) (Nat.le_trans (few3 (fn := linkG)) (by decide)) (fun R' q' => kind_comp word_link (fun x => ⟨rfl, rfl⟩) rfl (s1 _ _ epv) (dpAll_same s1 _ _ al) clean (by omega) fun D J s _ e => q' D J s (SqL.of e)) fun p2 J2 s2 n2 e2 => ?_
    refine nil_read ⟨by show 2 ≤ sizeLine; decide, fun t nt => ?_⟩
    have st := same_new nt (o := .tup [V.ref p1, .ref p2])
    exact hR _ _ ⟨(s1.trans s2).trans st, .tup (SqT.of upd_same) (.cons (.lst (SqL.of (st _ _ (s2 _ _ e1))) (dp_strs _)) (.cons (.lst (SqL.of (st _ _ e2)) (dp_strs _)) .nil))⟩
  show tSeq (tAsg _ _) _ _ [some (V.ref a), some (.ref g), some (.ref m), some (.ref c), some v, none, none, some (.ref pv), some y, none, none, none, none, none, none] H7
  have dv7 := dp_same (s6.trans s7) _ _ dv
  have G7 := G5.same (s6.trans s7)
  have ep7 := s7 _ _ epv
  have smT := sm_told dq tiny szQ
  have fewMs := signs_few markG qn szQ
  have fewCs := signs_few linkG qn szQ
  rw [hGq] at fewMs fewCs
  rw [hGq] at smT
  generalize hMs : signsQ markG GQ = Ms at *
  generalize hCs : signsQ linkG GQ = Cs at *
  have eF : freeQ GQ.toQ = freeQ qn := by rw [toQ]
  have eD : qd GQ.toQ = qd qn := by rw [toQ]
  -- all that is told, as data
  have toldSh := smT.showsZ (by decide) (by decide)
  refine seq_te (fun u H' => ∃ T p0 t p1 p2, u = .ref T ∧ Same H7 H' ∧ H' T = some (.lst [.ref p0, .ref t, .int (qd qn : Nat)]) ∧ H7 T = none ∧ H7 p0 = none ∧ H7 p1 = none ∧ H7 p2 = none ∧ p1 ≠ p2 ∧ p0 ≠ p1 ∧ p0 ≠ p2 ∧ p0 ≠ T ∧ p1 ≠ T ∧ p2 ≠ T ∧ SqT K H' t [.ref p1, .ref p2] ∧ H' p0 = some (.lst ((freeQ qn).map V.str)) ∧ H' p1 = some (.lst (Ms.map V.str)) ∧ H' p2 = some (.lst (Cs.map V.str))) (fun R hR => ?_) fun u H8 ⟨T, p0, t, p1, p2, eu, s8, eT, nT, n0, n1, n2, n12, n01, n02, n0T, n1T, n2T, ht, e0, e1, e2⟩ => ?_
  · refine ⟨v, rfl, nil_read (show spAskQ K (rFreeN K) [v] H7 _ E0 from ⟨v, GQ, rfl, dv7, goodG, sz1000, due0, fun x J1 ⟨p0, ex, s1, n0, e0⟩ => ?_⟩)⟩
    subst ex
    rw [eF] at e0
    refine ⟨v, rfl, nil_read (show spAskQ K (rSigns K) [v] J1 _ E0 from ⟨v, GQ, rfl, dp_same s1 _ _ dv7, goodG, sz1000, due0, fun x J2 ⟨t, p1, p2, ex, s2, n1, n2, n12, ht, nt, e1, e2⟩ => ?_⟩)⟩
    subst ex
    rw [hMs] at e1
    rw [hCs] at e2
    refine ⟨v, rfl, nil_read (show spAskQ K rDep [v] J2 _ E0 from ⟨v, GQ, rfl, dp_same (s1.trans s2) _ _ dv7, goodG, sz1000, due0, fun x J3 ⟨ex, s3⟩ => ?_⟩)⟩
    subst ex
    rw [eD]
    refine nil_read ⟨by show 3 ≤ sizeLine; decide, fun T nT => ?_⟩
    have sT := same_new nT (o := .lst [V.ref p0, .ref t, .int (qd qn : Nat)])
    have ne : ∀ {b : Addr} {o : HO}, J3 b = some o → b ≠ T := fun h => ne_of_none h nT
    exact hR _ _ ⟨T, p0, t, p1, p2, rfl, ((s1.trans s2).trans s3).trans sT, upd_same, none_before ((s1.trans s2).trans s3) nT, n0, none_before s1 n1, none_before s1 n2, n12, ne_of_none e0 n1, ne_of_none e0 n2, ne (s3 _ _ (s2 _ _ e0)), ne (s3 _ _ e1), ne (s3 _ _ e2), sqT_same (s3.trans sT) ht, sT _ _ (s3 _ _ (s2 _ _ e0)), sT _ _ (s3 _ _ e1), sT _ _ (s3 _ _ e2)⟩
  subst eu
  show tSeq (tIfS _ _ _) _ _ [some (V.ref a), some (.ref g), some (.ref m), some (.ref c), some v, none, none, some (.ref pv), some y, some (.ref T), none, none, none, none, none] H8
  have dT : Dp K H8 (.ref T) (.list [.list ((freeQ qn).map PyData.str), .tuple [.list (Ms.map PyData.str), .list (Cs.map PyData.str)], .int (qd qn : Nat)]) := .lst (SqL.of eT) (.cons (.lst (SqL.of e0) (dp_strs _)) (.cons (.tup ht (.cons (.lst (SqL.of e1) (dp_strs _)) (.cons (.lst (SqL.of e2) (dp_strs _)) .nil))) (.cons (.int _) .nil)))
  have lawSide : ∀ {J : Hp} {R : VK} {o9 o10 o11 o12 o13 o14 : Option V}, Same H7 J → (∀ x J', Same J J' → Dp K J' x (.list [.list ((freeQ qn).map PyData.str), .tuple [.list (Ms.map PyData.str), .list (Cs.map PyData.str)], .int (qd qn : Nat)]) → R x J') →
      tLst (tCons (tCall (spFree K 30) [] E0 (tCons (tVar 4) tNil)) (tCons (tVar 8) (tCons (tCall (spDepth K 30) [] E0 (tCons (tVar 4) tNil)) tNil))) [some (V.ref a), some (.ref g), some (.ref m), some (.ref c), some v, none, none, some (.ref pv), some y, o9, o10, o11, o12, o13, o14] J R := fun {J R o9 o10 o11 o12 o13 o14} s r => by
    have dvJ := dp_same s _ _ dv7
    rw [eqd] at dvJ
    refine ⟨v, rfl, nil_read (show spFree K 30 [v] J _ E0 from ⟨v, qn, rfl, dvJ, by omega, by omega, fun p J1 s1 np e1 => ?_⟩)⟩
    refine ⟨y, rfl, v, rfl, nil_read (show spDepth K 30 [v] J1 _ E0 from ⟨v, qn, rfl, dpq_same s1 qn dvJ, by omega, by omega, fun J2 s2 => ?_⟩)⟩
    refine nil_read ⟨by show 3 ≤ sizeLine; decide, fun l nl => ?_⟩
    have sl := same_new nl (o := .lst [V.ref p, y, .int (qd qn : Nat)])
    have dd' := dp_same (((s.trans s1).trans s2).trans sl) _ _ dd
    exact r _ _ ((s1.trans s2).trans sl) (.lst (SqL.of upd_same) (.cons (.lst (SqL.of (sl _ _ (s2 _ _ e1))) (dp_strs _)) (.cons dd' (.cons (.int _) .nil))))
  refine seq_any (fun σ' H' => σ' = [some (V.ref a), some (.ref g), some (.ref m), some (.ref c), some v, none, none, some (.ref pv), some y, some (.ref T), none, none, none, none, none] ∧ Same H8 H') (fun D' rt' nx' => ?_) fun σ' H9 ⟨eσ, s9⟩ => ?_
  · refine ⟨_, rfl, nil_read ⟨_, _, rfl, dT, toldSh, ?_⟩⟩
    refine repr_arg (lawSide s8 fun x J s dx => ⟨_, _, rfl, dx, toldSh, rfl, _, rfl, iteF' (by simp) (nx' _ _ ⟨rfl, s⟩)⟩)
  subst eσ
  -- what is told is ours
  have eT9 := s9 _ _ eT
  have ht9 := sqT_same s9 ht
  have e09 := s9 _ _ e0
  have e19 := s9 _ _ e1
  have e29 := s9 _ _ e2
  have s79 := s8.trans s9
  have lenF : ((freeQ qn).map V.str).length < sizeLine := by rw [List.length_map, sizeLine_eq]; have := freeQ_len qn; omega
  have lenM : (Ms.map V.str).length < sizeLine := by rw [List.length_map, sizeLine_eq]; omega
  have lenC : (Cs.map V.str).length < sizeLine := by rw [List.length_map, sizeLine_eq]; omega
  show tSeq _ _ _ [some (V.ref a), some (.ref g), some (.ref m), some (.ref c), some v, none, none, some (.ref pv), some y, some (.ref T), none, none, none, none, none] H9
  refine seq_app ⟨_, rfl, T, _, 0, _, rfl, rfl, SqL.of eT9, atI_nat (j := 0) rfl, .inl ⟨rfl, _, SqL.of e09⟩, p0, _, .non, rfl, rfl, e09, lenF, ?_⟩
  have s10 := same_over s79 n0 (o := .lst ((freeQ qn).map V.str ++ [.non]))
  have k10 : ∀ {b : Addr} {o : HO}, H9 b = some o → b ≠ p0 → L2.upd H9 p0 (.lst ((freeQ qn).map V.str ++ [.non])) b = some o := fun h ne => (upd_ne ne).trans h
  have eT10 := k10 eT9 n0T.symm
  have e110 := k10 e19 n01.symm
  have e210 := k10 e29 n02.symm
  have ht10 : SqT K (L2.upd H9 p0 (.lst ((freeQ qn).map V.str ++ [.non]))) t [V.ref p1, .ref p2] := sqT_over ht9 e09
  generalize L2.upd H9 p0 (.lst ((freeQ qn).map V.str ++ [.non])) = H10 at *
  refine seq_app ⟨_, rfl, T, _, 1, _, rfl, rfl, SqL.of eT10, atI_nat (j := 1) rfl, t, _, 0, _, rfl, rfl, ht10, atI_nat (j := 0) rfl, .inl ⟨rfl, _, SqL.of e110⟩, p1, _, .non, rfl, rfl, e110, lenM, ?_⟩
  have s11 := same_over s10 n1 (o := .lst (Ms.map V.str ++ [.non]))
  have k11 : ∀ {b : Addr} {o : HO}, H10 b = some o → b ≠ p1 → L2.upd H10 p1 (.lst (Ms.map V.str ++ [.non])) b = some o := fun h ne => (upd_ne ne).trans h
  have eT11 := k11 eT10 n1T.symm
  have e211 := k11 e210 n12.symm
  have ht11 : SqT K (L2.upd H10 p1 (.lst (Ms.map V.str ++ [.non]))) t [V.ref p1, .ref p2] := sqT_over ht10 e110
  generalize L2.upd H10 p1 (.lst (Ms.map V.str ++ [.non])) = H11 at *
  refine seq_app ⟨_, rfl, T, _, 1, _, rfl, rfl, SqL.of eT11, atI_nat (j := 1) rfl, t, _, 1, _, rfl, rfl, ht11, atI_nat (j := 1) rfl, .inl ⟨rfl, _, SqL.of e211⟩, p2, _, .non, rfl, rfl, e211, lenC, ?_⟩
  have s12 := same_over s11 n2 (o := .lst (Cs.map V.str ++ [.non]))
  generalize L2.upd H11 p2 (.lst (Cs.map V.str ++ [.non])) = H12 at *
  clear k10 k11 eT9 eT10 eT11 e09 e19 e29 e110 e210 e211 ht9 ht10 ht11 s10 s11 eT ht e0 e1 e2 dT
  show tSeq (tIfS _ _ _) _ _ [some (V.ref a), some (.ref g), some (.ref m), some (.ref c), some v, none, none, some (.ref pv), some y, some (.ref T), none, none, none, none, none] H12
  refine seq_any (fun σ' H' => σ' = [some (V.ref a), some (.ref g), some (.ref m), some (.ref c), some v, none, none, some (.ref pv), some y, some (.ref T), none, none, none, none, none] ∧ Same H12 H') (fun D' rt' nx' => ?_) fun σ' H13 ⟨eσ, s13⟩ => ?_
  · have dv12 := dp_same s12 _ _ dv7
    refine ⟨v, rfl, nil_read ⟨rfl, show spAskQ K (rFreeN K) [v] H12 _ E0 from ⟨v, GQ, rfl, dv12, goodG, sz1000, due0, fun x J1 ⟨p0, ex, s1, n0, e0⟩ => ?_⟩⟩⟩
    subst ex
    rw [eF] at e0
    refine ⟨v, rfl, nil_read ⟨rfl, show spAskQ K (rSigns K) [v] J1 _ E0 from ⟨v, GQ, rfl, dp_same s1 _ _ dv12, goodG, sz1000, due0, fun x J2 ⟨t, p1, p2, ex, s2, n1, n2, n12, ht, nt, e1, e2⟩ => ?_⟩⟩⟩
    subst ex
    rw [hMs] at e1
    rw [hCs] at e2
    refine ⟨v, rfl, nil_read ⟨rfl, show spAskQ K rDep [v] J2 _ E0 from ⟨v, GQ, rfl, dp_same (s1.trans s2) _ _ dv12, goodG, sz1000, due0, fun x J3 ⟨ex, s3⟩ => ?_⟩⟩⟩
    subst ex
    rw [eD]
    refine nil_read ⟨by show 3 ≤ sizeLine; decide, fun T nT => ?_⟩
    have sT := same_new nT (o := .lst [V.ref p0, .ref t, .int (qd qn : Nat)])
    have dT : Dp K _ (.ref T) (.list [.list ((freeQ qn).map PyData.str), .tuple [.list (Ms.map PyData.str), .list (Cs.map PyData.str)], .int (qd qn : Nat)]) := .lst (SqL.of upd_same) (.cons (.lst (SqL.of (sT _ _ (s3 _ _ (s2 _ _ e0)))) (dp_strs _)) (.cons (.tup (sqT_same (s3.trans sT) ht) (.cons (.lst (SqL.of (sT _ _ (s3 _ _ e1))) (dp_strs _)) (.cons (.lst (SqL.of (sT _ _ (s3 _ _ e2))) (dp_strs _)) .nil))) (.cons (.int _) .nil)))
    have sJ := ((s1.trans s2).trans s3).trans sT
    refine lawSide (s12.trans sJ) fun x J s dx => ⟨_, _, dp_same s _ _ dT, dx, smT.shaped (by decide), smT.shaped (by decide), _, rfl, iteF' ?_ (nx' _ _ ⟨rfl, sJ.trans s⟩)⟩
    rw [smT.eqv (by decide)]
    rfl
  subst eσ
  have G13 := (G7.same s12).same s13
  have dv13 := dp_same (s12.trans s13) _ _ dv7
  have ep13 := s13 _ _ (s12 _ _ ep7)
  have posG := gn_pos GQ
  have off13 : Dp K (off H13 g) v GQ.d := by
    obtain ⟨_, _, _, eg, _⟩ := G13
    rw [eqd] at dv13 ⊢
    exact dq_off eg qn dv13
  refine seq_any (fun _ _ => True) (fun D' rt' nx' => ?_) fun σ' H' _ => q H'
  refine ⟨10, rfl, by decide, by decide, for_range (lo := 0) (n := 10) (fun i σ' J => ∃ o5 o6 o10 o11 o12 o13 o14, σ' = [some (V.ref a), some (.ref g), some (.ref m), some (.ref c), some v, o5, o6, some (.ref pv), some y, some (.ref T), o10, o11, o12, o13, o14] ∧ Dp K (off J g) v GQ.d ∧ Gen J g (2000012 + 12 * (i : Nat)) ∧ J pv = some (.lst xs)) ⟨none, none, none, none, none, none, none, rfl, off13, G13.mono (by simp), ep13⟩ (fun i σ' J hi hP => ?_) fun σ' J _ => nx' _ _ True.intro⟩
  obtain ⟨o5, o6, o10, o11, o12, o13, o14, rfl, dvJ, GJ, epJ⟩ := hP
  show tSeq (tAsg _ _) _ _ [some (V.ref a), some (.ref g), some (.ref m), some (.ref c), some v, o5, o6, some (.ref pv), some y, some (.ref T), some (.int (0 + (i : Int))), o11, o12, o13, o14] J
  refine seq_any (fun σ' J' => ∃ pp x e, σ' = [some (V.ref a), some (.ref g), some (.ref m), some (.ref c), some v, some (.ref pp), some x, some (.ref pv), some y, some (.ref T), some (.int (0 + (i : Int))), o11, o12, o13, o14] ∧ e ∈ preG GQ [] [] ∧ SqT K J' pp (pV e.p) ∧ Dp K (off J' g) x e.g.d ∧ Dp K (off J' g) v GQ.d ∧ Gen J' g (2000012 + 12 * (i : Nat) + 3) ∧ J' pv = some (.lst xs)) (fun D2 rt2 nx2 => ?_) fun σ' J1 hP => ?_
  · refine ⟨v, rfl, Nat.zero_le _, fun p np => ?_⟩
    have sp := same_new np (o := .tup [])
    refine nil_read (show spPlaces K 30 [v, .ref p] _ _ E0 from ⟨v, p, ⟨GQ, [], []⟩, rfl, dp_same (off_le.trans sp) _ _ dvJ, goodG, fun k hk => (clean k hk).2, by show GQ.dep < 30; omega, sz1000, SqT.of upd_same, by show 0 + GQ.dep ≤ 1000; omega, fun l ws J2 s2 nl el pls => ?_⟩)
    have pls : Plcs K J2 ws (preG GQ [] []) := pls
    have lws := pls.len
    have s02 := sp.trans s2
    have G2 := GJ.same s02
    refine ⟨.ref g, rfl, .ref pv, rfl, nil_read ⟨pv, xs, rfl, .inl (SqL.of (s02 _ _ epJ)), nil_read (show spRandom [.ref g, .int xs.length] J2 _ E0 from ⟨g, xs.length, _, rfl, G2, by omega, by omega, by omega, fun r J3 r0 r1 G3 bt => ?_⟩)⟩⟩
    obtain ⟨r, rfl⟩ : ∃ k : Nat, r = (k : Int) := ⟨r.toNat, by omega⟩
    obtain ⟨z, e, hz, he, a1, pa, x, rfl, h1, h2, h3⟩ := plcs_at pls (i := r) (by omega)
    have kp := Keep.of_but bt
    obtain ⟨_, _, _, eg, _⟩ := id G2
    obtain ⟨r', er⟩ := part_q qn [] [] e (by rw [hGq]; exact he)
    refine ⟨l, ws, r, _, rfl, rfl, SqL.of ((bt l ((GJ.same sp).ne nl)).trans el), atI_nat hz, a1, _, rfl, sqT_keep h1 G2 kp, rfl, _, _, rfl, _, _, rfl, rfl, nx2 _ _ ⟨pa, x, e, rfl, he, sqT_keep h2 G2 kp, ?_, dp_same (off_but ((Keep.of_same s02).trans kp)) _ _ dvJ, G3, (bt pv npv).trans (s02 _ _ epJ)⟩⟩
    refine dp_same (off_but kp) _ _ ?_
    rw [er, ofQ_d] at h3 ⊢
    exact dq_off eg r' h3
  obtain ⟨pp, x, e, rfl, he, hpp, dx, dv1, G1, ep1⟩ := hP
  show tSeq (tAsg _ _) _ _ [some (V.ref a), some (.ref g), some (.ref m), some (.ref c), some v, some (.ref pp), some x, some (.ref pv), some y, some (.ref T), some (.int (0 + (i : Int))), o11, o12, o13, o14] J1
  refine seq_te (fun u J' => ∃ Bt : Gn, Bt.ok ∧ Bt.dep ≤ 18 ∧ Bt.sz ≤ 363 ∧ Sm 42 21000 Bt.d ∧ Dp K (off J' g) u Bt.d ∧ Dp K (off J' g) v GQ.d ∧ Gen J' g (2000012 + 12 * (i : Nat) + 6) ∧ J' pv = some (.lst xs)) (fun R hR => ?_) fun u J2 ⟨Bt, bok, bdep, bsz, bsm, du, dv2, G2, ep2⟩ => ?_
  · obtain ⟨pl, epl, ispl, lpl⟩ := part_at GQ [] [] e he
    rw [List.nil_append] at epl
    rw [epl] at hpp
    obtain ⟨r', er⟩ := part_q qn [] [] e (by rw [hGq]; exact he)
    have pO := part_of (k := 17) (n := 9000) GQ [] [] e he
    have okr := pO.ok okG
    have smr := pO.sm smG
    have szr := pO.sz
    rw [er] at okr smr szr lpl dx
    rw [ofQ_sz] at szr
    rw [ofQ_dep] at lpl
    rw [ofQ_d] at smr dx
    refine ⟨v, rfl, .ref pp, rfl, .ref g, rfl, x, rfl, nil_read (show spOdd K [.ref g, x] J1 _ E0 from ⟨g, x, r', _, rfl, G1, by omega, dx, fun z d J3 hd kp G3 dz => ?_⟩)⟩
    obtain ⟨new, rfl, nok, ndep, nsz, nsm⟩ := (odds okr (smr.mono (by decide) (by decide)) d hd).ex
    have pk := put_ok (k := 17) (n := 9000) (j := 25) (m := 12000) GQ pl new ispl
    have h1 := pk.dep
    have h2 := pk.sz
    have on3 : J3 g ≠ none := by
      obtain ⟨_, _, _, eg, _⟩ := id G3
      rw [eg]
      exact Option.some_ne_none _
    have dv3 := dp_same (off_but kp) _ _ dv1
    refine nil_read (show spPut K 30 [v, .ref pp, z] J3 R E0 from ⟨g, v, z, pp, GQ, new, pl, rfl, on3, dv3, dz, sqT_keep hpp G1 kp, ispl, by omega, by omega, fun u J4 s4 du => hR _ _ ⟨_, pk.ok okG nok, by omega, by omega, pk.sm smG nsm, du, dp_same (off_same s4) _ _ dv3, ?_, s4 _ _ (kp _ _ npv ep1)⟩⟩)
    exact (G3.same s4).mono (by omega)
  show tSeq (tAsg _ _) _ _ [some (V.ref a), some (.ref g), some (.ref m), some (.ref c), some v, some (.ref pp), some x, some (.ref pv), some y, some (.ref T), some (.int (0 + (i : Int))), some u, o12, o13, o14] J2
  have on2 : J2 g ≠ none := by
    obtain ⟨_, _, _, eg, _⟩ := id G2
    rw [eg]
    exact Option.some_ne_none _
  -- more
  have fBt : Fine Bt := ⟨bok, bsm.mono (by decide) (by decide), by omega, by omega⟩
  have fA : Fine (.cn true Bt maybeG) := ⟨⟨bok, maybe_ok⟩, (sm_cn (b := true) bsm maybe_sm).mono (by decide) (by decide), by show max Bt.dep 1 + 1 < 30; omega, by show Bt.sz + 2 + 1 ≤ 1000; omega⟩
  have fO : Fine (.cn false GQ Bt) := ⟨⟨okG, bok⟩, (sm_cn (b := false) smG bsm).mono (by decide) (by decide), by show max GQ.dep Bt.dep + 1 < 30; omega, by show GQ.sz + Bt.sz + 1 ≤ 1000; omega⟩
  refine seq_te (fun w J' => ∃ M ys B, ∃ gs : List Gn, w = .ref M ∧ Same J2 B ∧ B M = none ∧ M ≠ g ∧ DpAll K (off B g) ys (gs.map Gn.d) ∧ J' = L2.upd B M (.lst ys) ∧ (∀ h ∈ gs, Fine h) ∧ gs.length ≤ 2) (fun R hR => ?_) fun w J3 ⟨M, ys, B, gs, ew, s2B, nBM, nMg, alM, eJ3, fine, fewG⟩ => ?_
  · have forA : tLst (tCons (tVar 11) tNil) [some (V.ref a), some (.ref g), some (.ref m), some (.ref c), some v, some (.ref pp), some x, some (.ref pv), some y, some (.ref T), some (.int (0 + (i : Int))), some u, o12, o13, o14] J2 R := go_lst (ds := [Bt.d]) on2 (gos_cons (go_var rfl du) gos_nil) (by exact Nat.le_of_ble_eq_true rfl) fun p ys B s n ne al => hR _ _ ⟨p, ys, B, [Bt], rfl, s, n, ne, al, rfl, fun h hh => by rw [List.mem_singleton.mp hh]; exact fBt, by exact Nat.le_of_ble_eq_true rfl⟩
    have forB : tLst (tCons (tTup (tCons (tC (V.str "and")) (tCons (tVar 11) (tCons (tTup (tCons (tC (V.str "some")) (tCons (tC (V.str "x")) (tCons (tTup (tCons (tC (V.str "maybe")) tNil)) tNil)))) tNil)))) (tCons (tTup (tCons (tC (V.str "or")) (tCons (tVar 4) (tCons (tVar 11) tNil)))) tNil)) [some (V.ref a), some (.ref g), some (.ref m), some (.ref c), some v, some (.ref pp), some x, some (.ref pv), some y, some (.ref T), some (.int (0 + (i : Int))), some u, o12, o13, o14] J2 R :=
      go_lst (ds := [Gn.d (.cn true Bt maybeG), Gn.d (.cn false GQ Bt)]) on2 (gos_cons (go_tup on2 (gos_cons (go_str _) (gos_cons (go_var rfl du) (gos_cons (go_tup on2 (gos_cons (go_str _) (gos_cons (go_str _) (gos_cons (go_tup on2 (gos_cons (go_str _) gos_nil)) gos_nil)))) gos_nil)))) (gos_cons (go_tup on2 (gos_cons (go_str _) (gos_cons (go_var rfl dv2) (gos_cons (go_var rfl du) gos_nil)))) gos_nil)) (by exact Nat.le_of_ble_eq_true rfl) fun p ys B s n ne al => hR _ _ ⟨p, ys, B, [.cn true Bt maybeG, .cn false GQ Bt], rfl, s, n, ne, al, rfl, fun h hh => by
        simp only [List.mem_cons, List.not_mem_nil, or_false] at hh
        rcases hh with rfl | rfl
        · exact fA
        · exact fO, by exact Nat.le_of_ble_eq_true rfl⟩
    have ty := dp_ty (dp_same (off_le (H := J2) (g := g)) _ _ du)
    refine ⟨_, rfl, _, _, rfl, rfl, _, rfl, ?_⟩
    cases c0 : decide (0 + (i : Int) < 5) with
    | true => exact iteT' rfl (iteT' rfl forA)
    | false =>
      refine iteF' rfl ⟨_, rfl, u, .ty "tuple", _, _, _, rfl, .ty "tuple", ty, kit_data (by simp) Bt.d, _, rfl, ?_⟩
      cases c1 : isT "tuple" Bt.d with
      | true => exact iteF' rfl forB
      | false => exact iteT' rfl forA
  subst ew
  show tSeq (tAsg _ _) _ _ [some (V.ref a), some (.ref g), some (.ref m), some (.ref c), some v, some (.ref pp), some x, some (.ref pv), some y, some (.ref T), some (.int (0 + (i : Int))), some u, some (.ref M), o13, o14] J3
  have n2M : J2 M = none := none_before s2B nBM
  have s23 : Same J2 J3 := by rw [eJ3]; exact s2B.trans (same_new nBM)
  have kB3 : Keep g B J3 := by rw [eJ3]; exact Keep.of_same (same_new nBM)
  have eM3 : J3 M = some (.lst ys) := by rw [eJ3]; exact upd_same
  clear eJ3
  have G3 := G2.same s23
  have on3 : J3 g ≠ none := on_same s23 on2
  have dv3 := dp_same (off_same s23 (g := g)) _ _ dv2
  -- ends
  refine seq_te (fun w J' => ∃ L es, w = .ref L ∧ Same J3 J' ∧ L ≠ g ∧ J' L = some (.lst es) ∧ DpAll K (off J' g) es (endsQ.map Qn.d)) (fun R hR => ?_) fun w J4 ⟨L, es, ew, s34, nLg, eL, alL⟩ => ?_
  · exact go_lst (ds := endsQ.map Qn.d) on3 (gos_cons (go_tup on3 (gos_cons (go_str _) (gos_cons (go_str _) (gos_cons (go_tup on3 (gos_cons (go_str _) gos_nil)) gos_nil)))) (gos_cons (go_tup on3 (gos_cons (go_str _) (gos_cons (go_str _) (gos_cons (go_tup on3 (gos_cons (go_str _) (gos_cons (go_str _) (gos_cons (go_str _) gos_nil)))) gos_nil)))) (gos_cons (go_tup on3 (gos_cons (go_str _) (gos_cons (go_str _) (gos_cons (go_tup on3 (gos_cons (go_str _) (gos_cons (go_str _) (gos_cons (go_str _) gos_nil)))) gos_nil)))) gos_nil))) (by exact Nat.le_of_ble_eq_true rfl) fun p ys B s n ne al => hR _ _ ⟨p, ys, rfl, s.trans (same_new n), ne, upd_same, dpAll_same (off_same (same_new n)) _ _ al⟩
  subst ew
  show tSeq _ _ _ [some (V.ref a), some (.ref g), some (.ref m), some (.ref c), some v, some (.ref pp), some x, some (.ref pv), some y, some (.ref T), some (.int (0 + (i : Int))), some u, some (.ref M), some (.ref L), o14] J4
  have G4 := G3.same s34
  have eM4 := s34 _ _ eM3
  have dv4 := dp_same (off_same s34 (g := g)) _ _ dv3
  refine seq_app ⟨_, rfl, .inl ⟨rfl, _, SqL.of eM4⟩, ?_⟩
  refine end_at rfl rfl G4 (by omega) nLg eL alL rfl fun x1 d1 J5 hd1 bt1 G5 dx1 => ?_
  refine end_at rfl rfl G5 (by omega) nLg ((bt1 L nLg).trans eL) (dpAll_same (off_but (Keep.of_but bt1)) _ _ alL) rfl fun x2 d2 J6 hd2 bt2 G6 dx2 => ?_
  have k46 := (Keep.of_but bt1).trans (Keep.of_but bt2)
  have dx1 := dp_same (off_but (Keep.of_but bt2)) _ _ dx1
  have dv6 := dp_same (off_but k46) _ _ dv4
  have on6 : J6 g ≠ none := by
    obtain ⟨_, _, _, eg, _⟩ := id G6
    rw [eg]
    exact Option.some_ne_none _
  obtain ⟨q1, hq1, rfl⟩ := List.mem_map.mp hd1
  obtain ⟨q2, hq2, rfl⟩ := List.mem_map.mp hd2
  refine ⟨v, rfl, nil_read ⟨by show 3 ≤ sizeLine; decide, fun t1 nt1 => ?_⟩⟩
  have sa := same_new nt1 (o := .tup [V.str "or", x2, v])
  refine nil_read ⟨by show 3 ≤ sizeLine; decide, fun t2 nt2 => ?_⟩
  have sb := same_new nt2 (o := .tup [V.str "and", x1, .ref t1])
  have on7 := on_same sa on6
  have d8 : Dp K (off (L2.upd (L2.upd J6 t1 (.tup [V.str "or", x2, v])) t2 (.tup [V.str "and", x1, .ref t1])) g) (.ref t2) (Qn.cn true q1 (.cn false q2 qn)).d := by
    rw [eqd] at dv6
    exact .tup (new_off on7 nt2) (.cons (.str _) (.cons (dp_same (off_same (sa.trans sb)) _ _ dx1) (.cons (.tup (sqT_same (off_same sb) (new_off on6 nt1)) (.cons (.str _) (.cons (dp_same (off_same (sa.trans sb)) _ _ dx2) (.cons (dp_same (off_same (sa.trans sb)) _ _ dv6) .nil)))) .nil)))
  have k68 := Keep.of_same (g := g) (sa.trans sb)
  have G8 := G6.same (sa.trans sb)
  clear sa sb
  generalize L2.upd (L2.upd J6 t1 (.tup [V.str "or", x2, v])) t2 (.tup [V.str "and", x1, .ref t1]) = J8 at *
  have k48 := k46.trans k68
  have k38 := (Keep.of_same (g := g) s34).trans k48
  have kB8 := kB3.trans k38
  have k28 := (Keep.of_same (g := g) s23).trans k38
  have eM8 := k48 _ _ nMg eM4
  have lys := dpAll_len alM
  rw [List.length_map] at lys
  refine ⟨M, ys, .ref t2, rfl, rfl, eM8, by rw [sizeLine_eq]; omega, ?_⟩
  have d9 := dp_same (off2_upd (o := .lst (ys ++ [.ref t2]))) _ _ (dq_off (H := off J8 g) (g := M) (by rw [off_at nMg]; exact eM8) _ d8)
  have al9 := dpAll_same (off_upd (o := .lst (ys ++ [.ref t2])) kB8 nBM) _ _ alM
  have dv9 := dp_same (off_upd (o := .lst (ys ++ [.ref t2])) k28 n2M) _ _ dv2
  have G9 := G8.upd (o := .lst (ys ++ [.ref t2])) nMg.symm
  have ep9 : L2.upd J8 M (.lst (ys ++ [.ref t2])) pv = some (.lst xs) := (upd_ne (ne_of_none ep2 n2M)).trans (k28 _ _ npv ep2)
  have e9 : L2.upd J8 M (.lst (ys ++ [.ref t2])) M = some (.lst (ys ++ [.ref t2])) := upd_same
  generalize L2.upd J8 M (.lst (ys ++ [.ref t2])) = J9 at *
  have en1 := ends_ok q1 hq1
  have en2 := ends_ok q2 hq2
  have f3 : Fine (Gn.ofQ (.cn true q1 (.cn false q2 qn))) := ⟨⟨en1.1, en2.1, by rw [hGq]; exact okG⟩, by rw [ofQ_d]; exact (sm_cn (b := true) en1.2.2.2 (sm_cn (b := false) en2.2.2.2 smQ)).mono (by decide) (by decide), by rw [ofQ_dep]; show max q1.dep (max q2.dep qn.dep + 1) + 1 < 30; omega, by rw [ofQ_sz]; show q1.sz + (q2.sz + qn.sz + 1) + 1 ≤ 1000; omega⟩
  have all9 : DpAll K J9 (ys ++ [.ref t2]) ((gs ++ [Gn.ofQ (.cn true q1 (.cn false q2 qn))]).map Gn.d) := by
    rw [List.map_append]
    refine dpAll_same off_le _ _ (dpAll_app al9 (.cons ?_ .nil))
    rw [ofQ_d]
    exact d9
  have fine9 : ∀ h ∈ gs ++ [Gn.ofQ (.cn true q1 (.cn false q2 qn))], Fine h := fun h hh => by
    rcases List.mem_append.mp hh with hh | hh
    · exact fine h hh
    · rw [List.mem_singleton.mp hh]
      exact f3
  have len9 : (ys ++ [V.ref t2]).length = (gs ++ [Gn.ofQ (.cn true q1 (.cn false q2 qn))]).length := by rw [List.length_append, List.length_append, lys]; rfl
  have few9 : (ys ++ [V.ref t2]).length ≤ 3 := by rw [List.length_append]; show ys.length + 1 ≤ 3; omega
  generalize ys ++ [V.ref t2] = zs at *
  generalize gs ++ [Gn.ofQ (.cn true q1 (.cn false q2 qn))] = hs9 at *
  show tIfS _ _ _ _ [some (V.ref a), some (.ref g), some (.ref m), some (.ref c), some v, some (.ref pp), some x, some (.ref pv), some y, some (.ref T), some (.int (0 + (i : Int))), some u, some (.ref M), some (.ref L), o14] J9
  refine ⟨_, rfl, M, rfl, ⟨_, SqL.of e9⟩, fun D nD => ?_⟩
  refine lc_opts (walk_list (K := K) (a := M) (xs := zs)) (List.replicate zs.length none) (by rw [List.length_replicate]) (by rw [sizeLine_eq]; omega) nD (fun H' s' => SqL.of (s' _ _ e9)) (fun _ _ _ _ y => by rw [y.1]; exact fun _ _ h => h) (fun k x9 J10 J11 o hk ho s' yy R' N hR' hN => ?_) fun J10 s10 e10 => ?_
  · obtain ⟨rfl, hx⟩ := yy
    have hg : hs9[k]? = some hs9[k] := List.getElem?_eq_getElem (by omega)
    have fk := fine9 _ (List.mem_of_getElem? hg)
    have dk := dp_same s' _ _ (dpAll_get all9 hx (show (hs9.map Gn.d)[k]? = some hs9[k].d by rw [List.getElem?_map, hg]; rfl))
    generalize hs9[k] = gk at *
    have on : o = none := by
      rw [List.getElem?_replicate, if_pos hk] at ho
      injection ho with ho
      exact ho.symm
    refine ⟨rfl, _, rfl, nil_read ⟨_, _, rfl, dk, fk.sm.showsZ (by decide) (by decide), rfl, c_read ⟨_, _, rfl, rfl, _, _, rfl, rfl, _, rfl, ?_⟩⟩⟩
    by_cases c0 : Txt.count gk.d.shown "(" < 61
    · refine iteT' (decide_eq_true c0) ⟨_, rfl, nil_read (show spJudged K [x9] _ _ E0 from ⟨x9, gk, rfl, dk, fk.ok, fk.sm, fk.dep, fk.sz, fun J s => ⟨_, rfl, iteF' rfl (hN on _ s)⟩⟩)⟩
    · exact iteF' (decide_eq_false c0) (hN on _ (Same.refl _))
  · have e10 : J10 D = some (.lst []) := by
      rw [e10]
      congr 2
      exact List.filterMap_eq_nil_iff.mpr fun o ho => by rw [(List.mem_replicate.mp ho).2]; rfl
    refine ⟨Nat.zero_le _, fun p np => ?_⟩
    have sp := same_new np (o := .lst [])
    have s9p := s10.trans sp
    exact ⟨.list [], .list [], .lst (SqL.of (sp _ _ e10)) .nil, .lst (SqL.of upd_same) .nil, by decide +kernel, by decide +kernel, _, rfl, iteF' rfl ⟨_, _, _, _, _, _, _, rfl, dp_same (off_same s9p) _ _ dv9, (G9.same s9p).mono (by simp; omega), s9p _ _ ep9⟩⟩
end
end DQ

set_option Elab.async false
set_option linter.all false
set_option maxRecDepth 100000
set_option maxHeartbeats 2000000
namespace DQ
open PySem PySem.Spec PyProof.Rows L2
/-! ### the end of a law whose def was shown for calls around which no guard is -/
section
variable {P : Program} {w : World} {K : PySem.W.Frag} {mg nb : Str → Option Value} {j : Nat} {law scr : Addr} {code : FuncData} {par : Str} {asks : Sp} {t : Shared} {its : List Value} {nums : List Int}
/-- the script may be the only thing that is tracked -/
structure Bare (K : PySem.W.Frag) (scr : Addr) (H : Hp) : Prop where
  only : Only H
  self : ∀ b, H b ≠ none → b = scr
  out : H scr ≠ none → K.lookup scr = none
theorem bare_none {H : Hp} (X : Bare K scr H) {b : Addr} {o : Obj} {es : Array DictEntry} {n : Nat} (hs : t.heap.get? scr = some { cls := .type "list", data := .seq its.toArray }) (e : t.heap.get? b = some o) (d : o.data = .dict es n) : H b = none := Classical.byContradiction fun z => by
  have q := X.self b z
  rw [q, hs] at e
  cases e
  exact nomatch d
theorem ends_with (H : Hp) (X : Bare K scr H) (inK : K.In t.heap) (names : t.heap.Ns mainGlobals mg) (bns : t.heap.Ns builtinsNs nb) (boot : ∀ y : Str, y ≠ "__name__" → nb y = bootBuiltins y) (free : t.heap.NoLimit) (noGen : t.gens = #[])
    (hs : t.heap.get? scr = some { cls := .type "list", data := .seq its.toArray }) (room : Room j callerA) (F : ∀ base : Heap, K.In base → base.Ns mainGlobals mg → FnG P w K mg base CX0 j law code [par] asks) (bind : ∀ (s : Shared) (u : Value), BindsTo s code ⟨[u], []⟩ [(par, u)])
    (ok : HOk P w H t.heap) (ask : asks [.ref scr] H (fun v _ => v = .bl true) fun _ _ _ => False) :
    codeAny (model P w) callerA (.call (.ref law) ⟨[.ref scr], []⟩) (fun r u => r = .ok (.ret (.bool true)) ∧ OldK t.heap u.heap ∧ u.os = t.os ∧ AllBare u.gens) t := by
  have kept : ∀ {b : Addr} {m : Str → Option Value}, t.heap.Ns b m → (hidT t.heap H).Ns b m := fun {b m} z => by
    obtain ⟨o, es, n, e, d, r⟩ := z
    exact ⟨o, es, n, hidT_get e (bare_none X hs e d), d, r⟩
  have inK' : K.In (hidT t.heap H) := fun b o e => by
    refine hidT_get (inK b o e) (Classical.byContradiction fun z => ?_)
    have q := X.self b z
    rw [q] at e z
    rw [X.out z] at e
    exact nomatch e
  have mod : Mod K mg (hidT t.heap H) := by
    obtain ⟨mc, l1, l2⟩ := free
    exact ⟨inK', kept names, ⟨nb, kept bns, boot⟩, ⟨mc, kept l1, l2⟩⟩
  have start : Env0 P w K mg (hidT t.heap H) callerA [] t H := ⟨rfl, mod, fun b o => of_hidT, Nat.le_of_eq (hidT_size _ _), trivial, fun b z => absurd (show b ∈ ([] : List Addr) from z) List.not_mem_nil, ok, .of_eq noGen⟩
  have run := (F _ inK' (kept names)).run callerA [] t H ⟨[.ref scr], []⟩ [.ref scr] [.ref scr] _ _ room rfl start (bind t (.ref scr)) (.cons rfl .nil) ask
  refine codeAny_mono run fun r u z => ?_
  match r, z with
  | .error _, z => exact False.elim z
  | .ok .next, z => exact False.elim z
  | .ok .brk, z => exact False.elim z
  | .ok .cont, z => exact False.elim z
  | .ok (.ret y), z =>
    obtain ⟨v, H', os, bare, un, ok', rv, q⟩ := z
    have q : v = .bl true := q
    rw [q] at rv
    obtain rfl : y = Value.bool true := rv
    refine ⟨rfl, OldK.of_keep fun b o e => ?_, os, bare⟩
    cases z : H b with
    | none => exact un.keep b o e z (fun m => absurd (show b ∈ ([] : List Addr) from m) List.not_mem_nil) List.not_mem_nil
    | some f =>
      rcases X.only b with n | ⟨ob, xs, n⟩
      · rw [n] at z
        cases z
      · obtain ⟨e1, _⟩ := ok b _ n
        obtain ⟨e2, _⟩ := ok' b _ (un.frzs b ob _ n)
        rw [e] at e1
        cases e1
        exact e2
theorem ends_of (inK : K.In t.heap) (names : t.heap.Ns mainGlobals mg) (bns : t.heap.Ns builtinsNs nb) (boot : ∀ y : Str, y ≠ "__name__" → nb y = bootBuiltins y) (free : t.heap.NoLimit) (noGen : t.gens = #[])
    (hs : t.heap.get? scr = some { cls := .type "list", data := .seq its.toArray }) (hi : IntsAre its nums) (len : nums.length ≤ sizeLine) (room : Room j callerA) (F : ∀ base : Heap, K.In base → base.Ns mainGlobals mg → FnG P w K mg base CX0 j law code [par] asks)
    (bind : ∀ (s : Shared) (u : Value), BindsTo s code ⟨[u], []⟩ [(par, u)]) (ask : ∀ H : Hp, Only H → SqL K H scr (nums.map V.int) → asks [.ref scr] H (fun v _ => v = .bl true) fun _ _ _ => False) :
    codeAny (model P w) callerA (.call (.ref law) ⟨[.ref scr], []⟩) (fun r u => r = .ok (.ret (.bool true)) ∧ OldK t.heap u.heap ∧ u.os = t.os ∧ AllBare u.gens) t := by
  have rel := vals_ints hi
  have sz := hi.length
  by_cases own : K.lookup scr = none
  · let H : Hp := fun b => if b = scr then some (.frz { cls := .type "list", data := .seq its.toArray } (.lst (nums.map V.int))) else none
    have at0 : H scr = some (.frz { cls := .type "list", data := .seq its.toArray } (.lst (nums.map V.int))) := if_pos rfl
    have off : ∀ b, b ≠ scr → H b = none := fun b n => if_neg n
    have X : Bare K scr H := ⟨fun b => by
      by_cases e : b = scr
      · exact .inr ⟨_, _, by rw [e]; exact at0⟩
      · exact .inl (off b e), fun b n => Classical.byContradiction fun e => n (off b e), fun _ => own⟩
    refine ends_with H X inK names bns boot free noGen hs room F bind (fun b u z => ?_) (ask H X.only (.inl (.inr ⟨_, at0⟩)))
    by_cases e : b = scr
    · rw [e, at0] at z
      cases z
      rw [e]
      exact ⟨hs, by rw [List.length_map]; exact len, its, _, rel, hs⟩
    · rw [off b e] at z
      cases z
  · obtain ⟨o, ho⟩ : ∃ o, K.lookup scr = some o := by
      cases e : K.lookup scr with
      | none => exact absurd e own
      | some o => exact ⟨o, rfl⟩
    have e := inK scr o ho
    rw [hs] at e
    cases e
    have X : Bare K scr (fun _ => none) := ⟨fun _ => .inl rfl, fun b n => absurd rfl n, fun n => absurd rfl n⟩
    exact ends_with _ X inK names bns boot free noGen hs room F bind (fun b u z => nomatch z) (ask _ X.only (.inr ⟨_, its.toArray, _, ho, rfl, rfl, rfl, by rw [List.size_toArray, sz]; exact len, by simpa using rel⟩))
end
theorem walkG {l : PySem.W.OpenLaw} {n j : Nat} {q : Program} {loose : List Str} {XP : (Str → Option Value) → Heap → Prop} {YP : World → Heap → Prop} {d : DefRec} {K : Params → PySem.W.Frag} {asks : PySem.W.Frag → Sp} {par : Str}
    (hn : l.most = some n) (small : n ≤ sizeLine) (hdf : d.params.defaults = []) (room : Room j callerA) (inK : ∀ (w : World) (h : Heap), YP w h → (K w.params).In h)
    (F : ∀ (w : World) (mg : Str → Option Value) (law : Addr) (h : Heap), (K w.params).In h → h.Ns mainGlobals mg → mg d.name = some (.ref law) →
      ∃ code : FuncData, (∀ (s : Shared) (u : Value), BindsTo s code ⟨[u], []⟩ [(par, u)]) ∧ ∀ base : Heap, (K w.params).In base → base.Ns mainGlobals mg → FnG l.prog w (K w.params) mg base CX0 j law code [par] (asks (K w.params)))
    (ask : ∀ (K : PySem.W.Frag) (H : Hp) (scr : Addr) (nums : List Int), nums.length ≤ n → Only H → SqL K H scr (nums.map V.int) → asks K [.ref scr] H (fun v _ => v = .bl true) fun _ _ _ => False) :
    PySem.W.WalkO q loose XP YP l.row.toRowW d [] (fun f vs => PySem.call f vs) := by
  refine Att.attach_call hn hdf fun w s₀ t mg nb law o pm cd doc scr its nums G Y ho hd hcd hmg hs hints len noGen => ?_
  obtain ⟨code, bind, hF⟩ := F w mg law _ (inK w _ Y) G.T.g hmg
  exact ends_of (inK w _ Y) G.T.g G.T.b G.T.builtins G.T.nolimit noGen hs hints (Nat.le_trans len small) room hF bind fun H => ask _ H scr nums len
end DQ

set_option Elab.async false
set_option linter.all false
set_option maxRecDepth 100000
set_option maxHeartbeats 2000000
namespace DQ
open PySem PySem.Spec PyProof.Rows L2
/-! ### what the top has left: defs, constants -/
/-- a def of the top, by its facts -/
structure DefAt (K : PySem.W.Frag) (mg : Str → Option Value) (x : Str) (st : Stmt) (f : Addr) (fd : FuncData) : Prop where
  g : mg x = some (.ref f)
  F : Fun K x x st f fd
theorem def_mk {K : PySem.W.Frag} {h : Heap} {mg : Str → Option Value} {x : Str} {st : Stmt} {f : Addr} {oc kV doc pm cdv ct : Value} {od an : Option Addr} {osl : Array (Option Value)} (X : K.In h) (G : h.Ns mainGlobals mg) (a : PySem.W.nsIn K mainGlobals x = some (some (.ref f)))
    (l : K.lookup f = some ⟨oc, od, .func (PySem.W.fnOf x x (defArgs st) (defBody st) (defScope st) .none kV doc pm an cdv ct), osl⟩) (c : PySem.W.codeIn K cdv x = true) (k : PySem.W.keepIn K (.ref f) = true) : ∃ fd, DefAt K mg x st f fd :=
  ⟨_, PySem.W.mg_of X G a, fun_mk (st := st) l c k⟩
section
variable {K : PySem.W.Frag} {h : Heap} {mg : Str → Option Value}
theorem str_mk {x z v : Str} {t : Tok} (X : K.In h) (G : h.Ns mainGlobals mg) (a : PySem.W.nsIn K mainGlobals x = some (some (.str v t))) (e : v = z) : ∃ t, mg x = some (.str z t) := ⟨t, by rw [← e]; exact PySem.W.mg_of X G a⟩
theorem int_mk {x : Str} {z v : Int} {t : Tok} (X : K.In h) (G : h.Ns mainGlobals mg) (a : PySem.W.nsIn K mainGlobals x = some (some (.int v t))) (e : v = z) : ∃ t, mg x = some (.int z t) := ⟨t, by rw [← e]; exact PySem.W.mg_of X G a⟩
theorem rel_abs {u : Value} {x : V} (h : absV u = some x) : RelV x u := by
  cases u with
  | none => cases h; rfl
  | bool b => cases h; rfl
  | int i t => cases h; exact ⟨t, rfl⟩
  | str s t => cases h; exact ⟨t, rfl⟩
  | ref a => cases h; rfl
  | _ => first | cases h; rfl | (cases h; exact ⟨_, rfl⟩) | exact nomatch h
theorem vals_abs : ∀ {us : List Value} {xs : List V}, us.map absV = xs.map some → Vals xs us
  | [], [], _ => .nil
  | [], _ :: _, h => nomatch h
  | _ :: _, [], h => nomatch h
  | u :: us, x :: xs, h => by
    rw [List.map_cons, List.map_cons] at h
    injection h with h1 h2
    exact .cons (rel_abs h1) (vals_abs h2)
theorem tup_mk {x : Str} {r : Addr} {o : Obj} {its : Array Value} {n : Nat} {xs : List V} (X : K.In h) (G : h.Ns mainGlobals mg) (a : PySem.W.nsIn K mainGlobals x = some (some (.ref r))) (l : K.lookup r = some o) (c : o.cls = .type "tuple") (d : o.data = .seq its n) (z : its.size ≤ 1000) (e : its.toList.map absV = xs.map some) :
    ∃ r, mg x = some (.ref r) ∧ ∀ H, SqT K H r xs := ⟨r, PySem.W.mg_of X G a, fun H => .inr ⟨o, its, n, l, c, d, Nat.le_trans z (by decide), vals_abs e⟩⟩
end
end DQ

set_option Elab.async false
set_option linter.all false
set_option maxRecDepth 100000
set_option maxHeartbeats 1000000
namespace DQ
open PySem PySem.Spec PyProof.Rows L2
/-! ### the written lengths; keywords -/
theorem lens_mk {K : PySem.W.Frag} {w : World} {d : Addr} {o : Obj} {es : Array DictEntry} {n : Nat} {v0 v1 v2 v3 v4 v5 v6 v7 v8 v9 : Value} {t0 t1 t2 t3 t4 t5 t6 t7 t8 t9 : Tok} (l : K.lookup d = some o) (e : o = ⟨.type "dict", none, .dict es n, #[]⟩) (k : PySem.W.KeysLit w.params es.toList) (low : (d == sysModules) = false)
    (h0 : PySem.W.nsIn K d "true" = some (some v0)) (e0 : v0 = .int 1 t0)
    (h1 : PySem.W.nsIn K d "false" = some (some v1)) (e1 : v1 = .int 1 t1)
    (h2 : PySem.W.nsIn K d "mark" = some (some v2)) (e2 : v2 = .int 3 t2)
    (h3 : PySem.W.nsIn K d "link" = some (some v3)) (e3 : v3 = .int 4 t3)
    (h4 : PySem.W.nsIn K d "same" = some (some v4)) (e4 : v4 = .int 3 t4)
    (h5 : PySem.W.nsIn K d "not" = some (some v5)) (e5 : v5 = .int 2 t5)
    (h6 : PySem.W.nsIn K d "and" = some (some v6)) (e6 : v6 = .int 3 t6)
    (h7 : PySem.W.nsIn K d "or" = some (some v7)) (e7 : v7 = .int 3 t7)
    (h8 : PySem.W.nsIn K d "some" = some (some v8)) (e8 : v8 = .int 3 t8)
    (h9 : PySem.W.nsIn K d "all" = some (some v9)) (e9 : v9 = .int 3 t9)
    (no : PySem.W.nsIn K d "maybe" = some none) : Lens K w d := by
  rw [e0] at h0
  rw [e1] at h1
  rw [e2] at h2
  rw [e3] at h3
  rw [e4] at h4
  rw [e5] at h5
  rw [e6] at h6
  rw [e7] at h7
  rw [e8] at h8
  rw [e9] at h9
  refine ⟨⟨es, n, by rw [l, e], k, low⟩, fun h n hn => ?_, no⟩
  unfold lenW at hn
  split at hn
  · rename_i c
    injection hn with hn
    subst hn
    rcases (show h = "true" ∨ h = "false" by simpa using c) with rfl | rfl
    · exact ⟨_, h0⟩
    · exact ⟨_, h1⟩
  · split at hn
    · rename_i c
      injection hn with hn
      subst hn c
      exact ⟨_, h5⟩
    · split at hn
      · rename_i c
        injection hn with hn
        subst hn c
        exact ⟨_, h3⟩
      · split at hn
        · rename_i c
          injection hn with hn
          subst hn
          rcases (show h = "mark" ∨ h = "same" ∨ h = "and" ∨ h = "or" ∨ h = "some" ∨ h = "all" by simpa using c) with rfl | rfl | rfl | rfl | rfl | rfl
          · exact ⟨_, h2⟩
          · exact ⟨_, h4⟩
          · exact ⟨_, h6⟩
          · exact ⟨_, h7⟩
          · exact ⟨_, h8⟩
          · exact ⟨_, h9⟩
        · cases hn
section
variable {K : PySem.W.Frag} {f : Addr} {fd : FuncData}
theorem kb_first (F : Fun K "first_wrong" "first_wrong" sFirst f fd) : KBn K fd ["value"] 0 ["value"] (fun us ws => us ++ ws) (fun us ws => us ++ ws) := kb_one F fun _ _ _ _ _ _ _ _ => .of_eq rfl
theorem kb_isQ (F : Fun K "is_question" "is_question" sIsQ f fd) : KBn K fd ["value"] 0 ["value"] (fun us ws => us ++ ws) (fun us ws => us ++ ws) := kb_one F fun _ _ _ _ _ _ _ _ => .of_eq rfl
theorem kb_freeN (F : Fun K "free_names" "free_names" sFreeN f fd) : KBn K fd ["question"] 0 ["question"] (fun us ws => us ++ ws) (fun us ws => us ++ ws) := kb_one F fun _ _ _ _ _ _ _ _ => .of_eq rfl
theorem kb_signs (F : Fun K "signs" "signs" sSigns f fd) : KBn K fd ["question"] 0 ["question"] (fun us ws => us ++ ws) (fun us ws => us ++ ws) := kb_one F fun _ _ _ _ _ _ _ _ => .of_eq rfl
theorem kb_dep (F : Fun K "depth" "depth" sDep f fd) : KBn K fd ["question"] 0 ["question"] (fun us ws => us ++ ws) (fun us ws => us ++ ws) := kb_one F fun _ _ _ _ _ _ _ _ => .of_eq rfl
end
end DQ

set_option Elab.async false
set_option linter.all false
set_option maxRecDepth 100000
set_option maxHeartbeats 4000000
namespace DQ
open PySem PySem.Spec PyProof.Rows L2
theorem all_of {P : Program} {w : World} {K : PySem.W.Frag} {mg : Str → Option Value} {fa f0 f1 f2 f3 f4 f5 f6 f7 f8 f9 f10 f11 f12 f13 f14 f15 f16 f17 f18 f19 f20 f21 f22 f23 f24 f25 f26 f27 f28 f29 f30 f31 f32 f33 f34 f35 f36 f37 dL : Addr} (hfa : mg "law" = some (.ref fa))
    (x0 : mg "LENGTHS" = some (.ref dL))
    (x1 : Lens K w dL)
    (c0 : ∃ t, mg "LETTERS" = some (.str letters t))
    (c1 : ∃ t, mg "WORD_SIGNS" = some (.str wordSigns t))
    (c2 : ∃ t, mg "MOST_SIGNS" = some (.int 30 t))
    (c3 : ∃ r, mg "RESERVED" = some (.ref r) ∧ ∀ H, SqT K H r (reserved.map V.str))
    (c4 : ∃ r, mg "QUANTIFIERS" = some (.ref r) ∧ ∀ H, SqT K H r (quansL.map V.str))
    (c5 : ∃ r, mg "ATOMS" = some (.ref r) ∧ ∀ H, SqT K H r (atomsL.map V.str))
    (D0 : ∃ fd, DefAt K mg "is_word" sIsWord f0 fd)
    (D1 : ∃ fd, DefAt K mg "is_spelled" sSpelled f1 fd)
    (D2 : ∃ fd, DefAt K mg "words_in" sWordsIn f2 fd)
    (D3 : ∃ fd, DefAt K mg "names_in" sNamesIn f3 fd)
    (D4 : ∃ fd, DefAt K mg "parts" sParts f4 fd)
    (D5 : ∃ fd, DefAt K mg "is_formed" sFormed f5 fd)
    (D6 : ∃ fd, DefAt K mg "wrong_itself" sWrong f6 fd)
    (D7 : ∃ fd, DefAt K mg "walked" sWalked f7 fd)
    (D8 : ∃ fd, DefAt K mg "names_free_in" sNFree f8 fd)
    (D9 : ∃ fd, DefAt K mg "first_wrong" sFirst f9 fd)
    (D10 : ∃ fd, DefAt K mg "is_question" sIsQ f10 fd)
    (D11 : ∃ fd, DefAt K mg "check_question" sCheckQ f11 fd)
    (D12 : ∃ fd, DefAt K mg "seen_in" sSeenIn f12 fd)
    (D13 : ∃ fd, DefAt K mg "free_names" sFreeN f13 fd)
    (D14 : ∃ fd, DefAt K mg "depth_in" sDepIn f14 fd)
    (D15 : ∃ fd, DefAt K mg "depth" sDep f15 fd)
    (D16 : ∃ fd, DefAt K mg "signs" sSigns f16 fd)
    (D17 : ∃ fd, DefAt K mg "_law_hash" sHash f17 fd)
    (D18 : ∃ fd, DefAt K mg "_law_random" sRandom f18 fd)
    (D19 : ∃ fd, DefAt K mg "_law_cell" sCell f19 fd)
    (D20 : ∃ fd, DefAt K mg "_law_generator" sGenerator f20 fd)
    (D21 : ∃ fd, DefAt K mg "_law_pick" sPickX f21 fd)
    (D22 : ∃ fd, DefAt K mg "_law_drawn_atom" sAtom f22 fd)
    (D23 : ∃ fd, DefAt K mg "_law_drawn_part" sPart f23 fd)
    (D24 : ∃ fd, DefAt K mg "_law_drawn_question" sQuest f24 fd)
    (D25 : ∃ fd, DefAt K mg "_law_free" sFree f25 fd)
    (D26 : ∃ fd, DefAt K mg "_law_depth" sDepth f26 fd)
    (D27 : ∃ fd, DefAt K mg "_law_is_word" sLWord f27 fd)
    (D28 : ∃ fd, DefAt K mg "_law_why" sLWhy f28 fd)
    (D29 : ∃ fd, DefAt K mg "_law_first_wrong" sLFirst f29 fd)
    (D30 : ∃ fd, DefAt K mg "_law_within_of" sWithin f30 fd)
    (D31 : ∃ fd, DefAt K mg "_law_places" sPlaces f31 fd)
    (D32 : ∃ fd, DefAt K mg "_law_due" sDue f32 fd)
    (D33 : ∃ fd, DefAt K mg "_law_put" sPut f33 fd)
    (D34 : ∃ fd, DefAt K mg "_law_odd" sOdd f34 fd)
    (D35 : ∃ fd, DefAt K mg "_law_judged_right" sJudged f35 fd)
    (D36 : ∃ fd, DefAt K mg "_law_written_right" sWritten f36 fd)
    (D37 : ∃ fd, DefAt K mg "law" sLaw f37 fd)
    (z0 : mg "isinstance" = none)
    (z1 : mg "str" = none)
    (z2 : mg "len" = none)
    (z3 : mg "all" = none)
    (z4 : mg "tuple" = none)
    (z5 : mg "list" = none)
    (z6 : mg "enumerate" = none)
    (z7 : mg "sorted" = none)
    (z8 : mg "max" = none)
    (z9 : mg "set" = none)
    (z10 : mg "sum" = none)
    (z11 : mg "int" = none)
    (z12 : mg "repr" = none)
    (z13 : mg "range" = none)
    : ∃ fd : FuncData, (∀ (s : Shared) (v : Value), BindsTo s fd ⟨[v], []⟩ [("script", v)]) ∧ ∀ base : Heap, FnG P w K mg base CX0 38 fa fd ["script"] (spLaw K) := by
  obtain ⟨t0, c0⟩ := c0
  obtain ⟨t1, c1⟩ := c1
  obtain ⟨t2, c2⟩ := c2
  obtain ⟨r3, c3, cc3⟩ := c3
  obtain ⟨r4, c4, cc4⟩ := c4
  obtain ⟨r5, c5, cc5⟩ := c5
  obtain ⟨d0, D0⟩ := D0
  obtain ⟨d1, D1⟩ := D1
  obtain ⟨d2, D2⟩ := D2
  obtain ⟨d3, D3⟩ := D3
  obtain ⟨d4, D4⟩ := D4
  obtain ⟨d5, D5⟩ := D5
  obtain ⟨d6, D6⟩ := D6
  obtain ⟨d7, D7⟩ := D7
  obtain ⟨d8, D8⟩ := D8
  obtain ⟨d9, D9⟩ := D9
  obtain ⟨d10, D10⟩ := D10
  obtain ⟨d11, D11⟩ := D11
  obtain ⟨d12, D12⟩ := D12
  obtain ⟨d13, D13⟩ := D13
  obtain ⟨d14, D14⟩ := D14
  obtain ⟨d15, D15⟩ := D15
  obtain ⟨d16, D16⟩ := D16
  obtain ⟨d17, D17⟩ := D17
  obtain ⟨d18, D18⟩ := D18
  obtain ⟨d19, D19⟩ := D19
  obtain ⟨d20, D20⟩ := D20
  obtain ⟨d21, D21⟩ := D21
  obtain ⟨d22, D22⟩ := D22
  obtain ⟨d23, D23⟩ := D23
  obtain ⟨d24, D24⟩ := D24
  obtain ⟨d25, D25⟩ := D25
  obtain ⟨d26, D26⟩ := D26
  obtain ⟨d27, D27⟩ := D27
  obtain ⟨d28, D28⟩ := D28
  obtain ⟨d29, D29⟩ := D29
  obtain ⟨d30, D30⟩ := D30
  obtain ⟨d31, D31⟩ := D31
  obtain ⟨d32, D32⟩ := D32
  obtain ⟨d33, D33⟩ := D33
  obtain ⟨d34, D34⟩ := D34
  obtain ⟨d35, D35⟩ := D35
  obtain ⟨d36, D36⟩ := D36
  obtain ⟨d37, D37⟩ := D37
  have e := hfa.symm.trans D37.g
  cases e
  have b0 := D0.F.binds (ps := ["value"]) fun _ _ _ _ _ _ us hl => match us, hl with | [_], _ => rfl
  have b1 := D1.F.binds (ps := ["text"]) fun _ _ _ _ _ _ us hl => match us, hl with | [_], _ => rfl
  have b2 := D2.F.binds (ps := ["one"]) fun _ _ _ _ _ _ us hl => match us, hl with | [_], _ => rfl
  have b3 := D3.F.binds (ps := ["one"]) fun _ _ _ _ _ _ us hl => match us, hl with | [_], _ => rfl
  have b4 := D4.F.binds (ps := ["one"]) fun _ _ _ _ _ _ us hl => match us, hl with | [_], _ => rfl
  have b5 := D5.F.binds (ps := ["value"]) fun _ _ _ _ _ _ us hl => match us, hl with | [_], _ => rfl
  have b6 := D6.F.binds (ps := ["value", "around"]) fun _ _ _ _ _ _ us hl => match us, hl with | [_, _], _ => rfl
  have b7 := D7.F.binds (ps := ["value"]) fun _ _ _ _ _ _ us hl => match us, hl with | [_], _ => rfl
  have b8 := D8.F.binds (ps := ["seen"]) fun _ _ _ _ _ _ us hl => match us, hl with | [_], _ => rfl
  have b9 := D9.F.binds (ps := ["value"]) fun _ _ _ _ _ _ us hl => match us, hl with | [_], _ => rfl
  have b10 := D10.F.binds (ps := ["value"]) fun _ _ _ _ _ _ us hl => match us, hl with | [_], _ => rfl
  have b11 := D11.F.binds (ps := ["question"]) fun _ _ _ _ _ _ us hl => match us, hl with | [_], _ => rfl
  have b12 := D12.F.binds (ps := ["question"]) fun _ _ _ _ _ _ us hl => match us, hl with | [_], _ => rfl
  have b13 := D13.F.binds (ps := ["question"]) fun _ _ _ _ _ _ us hl => match us, hl with | [_], _ => rfl
  have b14 := D14.F.binds (ps := ["seen"]) fun _ _ _ _ _ _ us hl => match us, hl with | [_], _ => rfl
  have b15 := D15.F.binds (ps := ["question"]) fun _ _ _ _ _ _ us hl => match us, hl with | [_], _ => rfl
  have b16 := D16.F.binds (ps := ["question"]) fun _ _ _ _ _ _ us hl => match us, hl with | [_], _ => rfl
  have b17 := D17.F.binds (ps := ["seed", "index"]) fun _ _ _ _ _ _ us hl => match us, hl with | [_, _], _ => rfl
  have b18 := D18.F.binds (ps := ["generator", "bound"]) fun _ _ _ _ _ _ us hl => match us, hl with | [_, _], _ => rfl
  have b19 := D19.F.binds (ps := ["script", "index"]) fun _ _ _ _ _ _ us hl => match us, hl with | [_, _], _ => rfl
  have b20 := D20.F.binds (ps := ["script", "index"]) fun _ _ _ _ _ _ us hl => match us, hl with | [_, _], _ => rfl
  have b21 := D21.F.binds (ps := ["generator", "things"]) fun _ _ _ _ _ _ us hl => match us, hl with | [_, _], _ => rfl
  have b22 := D22.F.binds (ps := ["generator", "marks", "columns", "names"]) fun _ _ _ _ _ _ us hl => match us, hl with | [_, _, _, _], _ => rfl
  have b23 := D23.F.binds (ps := ["generator", "words", "names", "deep", "purse"]) fun _ _ _ _ _ _ us hl => match us, hl with | [_, _, _, _, _], _ => rfl
  have b24 := D24.F.binds (ps := ["generator", "marks", "columns", "names", "deep"]) fun _ _ _ _ _ _ us hl => match us, hl with | [_, _, _, _, _], _ => rfl
  have b25 := D25.F.binds (ps := ["question"]) fun _ _ _ _ _ _ us hl => match us, hl with | [_], _ => rfl
  have b26 := D26.F.binds (ps := ["question"]) fun _ _ _ _ _ _ us hl => match us, hl with | [_], _ => rfl
  have b27 := D27.F.binds (ps := ["value"]) fun _ _ _ _ _ _ us hl => match us, hl with | [_], _ => rfl
  have b28 := D28.F.binds (ps := ["value", "around"]) fun _ _ _ _ _ _ us hl => match us, hl with | [_, _], _ => rfl
  have b29 := D29.F.binds (ps := ["value", "place", "around"]) fun _ _ _ _ _ _ us hl => match us, hl with | [_, _, _], _ => rfl
  have b30 := D30.F.binds (ps := ["value"]) fun _ _ _ _ _ _ us hl => match us, hl with | [_], _ => rfl
  have b31 := D31.F.binds (ps := ["value", "place"]) fun _ _ _ _ _ _ us hl => match us, hl with | [_, _], _ => rfl
  have b32 := D32.F.binds (ps := ["value"]) fun _ _ _ _ _ _ us hl => match us, hl with | [_], _ => rfl
  have b33 := D33.F.binds (ps := ["value", "place", "new"]) fun _ _ _ _ _ _ us hl => match us, hl with | [_, _, _], _ => rfl
  have b34 := D34.F.binds (ps := ["generator", "part"]) fun _ _ _ _ _ _ us hl => match us, hl with | [_, _], _ => rfl
  have b35 := D35.F.binds (ps := ["value"]) fun _ _ _ _ _ _ us hl => match us, hl with | [_], _ => rfl
  have b36 := D36.F.binds (ps := []) fun _ _ _ _ _ _ us hl => match us, hl with | [], _ => rfl
  refine ⟨d37, fun s v => ?_, fun base => ?_⟩
  · obtain ⟨oc, od, kV, doc, pm, an, cdv, ct, osl, rfl, _⟩ := D37.F.ex
    exact .of_eq rfl
  have o1 := ok_spelled (P := P) (w := w) (mg := mg) (base := base) D1.F c0 c1 c2 z2 z3
  have o0 := ok_isWord (P := P) (w := w) (mg := mg) (base := base) D0.F o1 b1 D1.F.kp D1.g z0 z1 c3 cc3
  have o2 := ok_wordsIn (P := P) (w := w) (mg := mg) (base := base) D2.F c5 cc5 c4 cc4 z5
  have o3 := ok_namesIn (P := P) (w := w) (mg := mg) (base := base) D3.F c5 cc5 z5
  have o4 := ok_parts (P := P) (w := w) (mg := mg) (base := base) D4.F c4 cc4 z5
  have o5 := ok_formed (P := P) (w := w) (mg := mg) (base := base) D5.F x1 x0 z0 z4 z2 z1
  have o6 := ok_wrong (P := P) (w := w) (mg := mg) (base := base) D6.F o5 b5 D5.F.kp D5.g o0 b0 D0.F.kp D0.g o2 b2 D2.F.kp D2.g c4 cc4 z3
  have o7 := ok_walked (P := P) (w := w) (mg := mg) (base := base) D7.F o6 b6 D6.F.kp D6.g o4 b4 D4.F.kp D4.g c4 cc4 z6
  have o8 := ok_nfree (P := P) (w := w) (mg := mg) (base := base) D8.F o3 b3 D3.F.kp D3.g
  have o9 := ok_first (P := P) (w := w) (mg := mg) (base := base) D9.F o7 b7 D7.F.kp D7.g o8 b8 D8.F.kp D8.g c4 cc4
  have o10 := ok_isQ (P := P) (w := w) (mg := mg) (base := base) D10.F o9 b9 D9.F.kp D9.g
  have o11 := ok_checkQ (P := P) (w := w) (mg := mg) (base := base) D11.F o10 b10 D10.F.kp D10.g
  have o12 := ok_seenIn (P := P) (w := w) (mg := mg) (base := base) D12.F o11 b11 D11.F.kp D11.g o7 b7 D7.F.kp D7.g
  have o13 := ok_freeN (P := P) (w := w) (mg := mg) (base := base) D13.F o12 b12 D12.F.kp D12.g o8 b8 D8.F.kp D8.g z7
  have o14 := ok_depIn (P := P) (w := w) (mg := mg) (base := base) D14.F c4 cc4 z8 z2
  have o15 := ok_dep (P := P) (w := w) (mg := mg) (base := base) D15.F o12 b12 D12.F.kp D12.g o14 b14 D14.F.kp D14.g
  have o16 := ok_signs (P := P) (w := w) (mg := mg) (base := base) D16.F o12 b12 D12.F.kp D12.g z7
  have o17 := ok_hash (P := P) (w := w) (mg := mg) (base := base) D17.F z11
  have o18 := ok_random (P := P) (w := w) (mg := mg) (base := base) D18.F o17 b17 D17.F.kp D17.g z11 z13
  have o19 := ok_cell (P := P) (w := w) (mg := mg) (base := base) D19.F z2 z10
  have o20 := ok_generator (P := P) (w := w) (mg := mg) (base := base) D20.F o19 b19 D19.F.kp D19.g z11 z8
  have o21 := ok_pickX (P := P) (w := w) (mg := mg) (base := base) D21.F o18 b18 D18.F.kp D18.g z2
  have o22 := ok_atom (P := P) (w := w) (mg := mg) (base := base) D22.F o18 b18 D18.F.kp D18.g o21 b21 D21.F.kp D21.g z11 z2
  have o23 := ok_part (P := P) (w := w) (mg := mg) (base := base) D23.F o18 b18 D18.F.kp D18.g o22 b22 D22.F.kp D22.g b23 D23.F.kp D23.g 16
  have o24 := ok_quest (P := P) (w := w) (mg := mg) (base := base) D24.F o18 b18 D18.F.kp D18.g o23 b23 D23.F.kp D23.g z11 z5
  have o25 := ok_free (P := P) (w := w) (mg := mg) (base := base) D25.F b25 D25.F.kp D25.g z7 z9 z11 z10 z0 z4 30
  have o26 := ok_depth (P := P) (w := w) (mg := mg) (base := base) D26.F b26 D26.F.kp D26.g z8 z11 z0 z4 30
  have o27 := ok_lword (P := P) (w := w) (mg := mg) (base := base) D27.F z0 z1 z2
  have o28 := ok_lwhy (P := P) (w := w) (mg := mg) (base := base) D28.F o27 b27 D27.F.kp D27.g z0 z4 z1 z2 z11
  have o30 := ok_within (P := P) (w := w) (mg := mg) (base := base) D30.F z5
  have o29 := ok_lfirst (P := P) (w := w) (mg := mg) (base := base) D29.F o28 b28 D28.F.kp D28.g o30 b30 D30.F.kp D30.g b29 D29.F.kp D29.g z6 30
  have o31 := ok_places (P := P) (w := w) (mg := mg) (base := base) D31.F o30 b30 D30.F.kp D30.g b31 D31.F.kp D31.g z6 30
  have o32 := ok_due (P := P) (w := w) (mg := mg) (base := base) D32.F o29 b29 D29.F.kp D29.g o25 b25 D25.F.kp D25.g o31 b31 D31.F.kp D31.g
  have o33 := ok_put (P := P) (w := w) (mg := mg) (base := base) D33.F b33 D33.F.kp D33.g z11 30
  have o34 := ok_odd (P := P) (w := w) (mg := mg) (base := base) D34.F o18 b18 D18.F.kp D18.g z5 z2
  have o35 := ok_judged (P := P) (w := w) (mg := mg) (base := base) D35.F o32 b32 D32.F.kp D32.g o9 b9 D9.F.kp D9.g (kb_first D9.F) o10 b10 D10.F.kp D10.g (kb_isQ D10.F) z12
  have o36 := ok_written (P := P) (w := w) (mg := mg) (base := base) D36.F o9 b9 D9.F.kp D9.g o10 b10 D10.F.kp D10.g o15 b15 D15.F.kp D15.g o16 b16 D16.F.kp D16.g o13 b13 D13.F.kp D13.g
  exact ok_law D37.F o20 b20 D20.F.kp D20.g o36 b36 D36.F.kp D36.g o18 b18 D18.F.kp D18.g o24 b24 D24.F.kp D24.g o35 b35 D35.F.kp D35.g o10 b10 D10.F.kp D10.g o31 b31 D31.F.kp D31.g o13 b13 D13.F.kp D13.g (kb_freeN D13.F) o16 b16 D16.F.kp D16.g (kb_signs D16.F) o15 b15 D15.F.kp D15.g (kb_dep D15.F) o25 b25 D25.F.kp D25.g o26 b26 D26.F.kp D26.g o33 b33 D33.F.kp D33.g o34 b34 D34.F.kp D34.g z2 z7 z9 z12 z13 z0 z4
end DQ

open PySem PySem.W PyProof.Rows
set_option maxRecDepth 100000 in
set_option maxHeartbeats 0 in
theorem PySem.Challenge.cw_depthquestions_k10_whole_questions_judge_holds : PySem.Challenge.rw_depthquestions_k10_whole_questions_judge.Holds := by
  w_on; o_law; k_head; (case hw => w_witness2)
  k_fill
  refine DQ.walkG (l := PySem.Challenge.rw_depthquestions_k10_whole_questions_judge) (n := 63) (j := 38) (par := "script") (asks := DQ.spLaw) rfl (by decide) rfl ⟨rfl, by decide, by decide⟩ (fun w h Y => PySem.W.kIn_of Y) ?F (fun K H a ns _ _ hS => ⟨a, ns, rfl, hS, fun _ => rfl⟩)
  case F =>
    intro w mg fa h KX G hmg
    suffices A : ∃ fd : FuncData, (∀ (s : Shared) (v : Value), BindsTo s fd ⟨[v], []⟩ [("script", v)]) ∧ ∀ base : Heap, DQ.FnG (PySem.Challenge.rw_depthquestions_k10_whole_questions_judge).prog w _ mg base L2.CX0 38 fa fd ["script"] (DQ.spLaw _) from A.imp fun fd z => ⟨z.1, fun base _ _ => z.2 base⟩
    refine' DQ.all_of hmg
      (PySem.W.mg_of KX G ?gL)
      (DQ.lens_mk ?mL ?mE ?mK ?mW ?h0 ?i0 ?h1 ?i1 ?h2 ?i2 ?h3 ?i3 ?h4 ?i4 ?h5 ?i5 ?h6 ?i6 ?h7 ?i7 ?h8 ?i8 ?h9 ?i9 ?mN)
      (DQ.str_mk KX G ?c0 ?e0)
      (DQ.str_mk KX G ?c1 ?e1)
      (DQ.int_mk KX G ?c2 ?e2)
      (DQ.tup_mk KX G ?c3 ?l3 ?t3 ?d3 ?zz3 ?e3)
      (DQ.tup_mk KX G ?c4 ?l4 ?t4 ?d4 ?zz4 ?e4)
      (DQ.tup_mk KX G ?c5 ?l5 ?t5 ?d5 ?zz5 ?e5)
      (DQ.def_mk KX G ?da0 ?dl0 ?dc0 ?dk0)
      (DQ.def_mk KX G ?da1 ?dl1 ?dc1 ?dk1)
      (DQ.def_mk KX G ?da2 ?dl2 ?dc2 ?dk2)
      (DQ.def_mk KX G ?da3 ?dl3 ?dc3 ?dk3)
      (DQ.def_mk KX G ?da4 ?dl4 ?dc4 ?dk4)
      (DQ.def_mk KX G ?da5 ?dl5 ?dc5 ?dk5)
      (DQ.def_mk KX G ?da6 ?dl6 ?dc6 ?dk6)
      (DQ.def_mk KX G ?da7 ?dl7 ?dc7 ?dk7)
      (DQ.def_mk KX G ?da8 ?dl8 ?dc8 ?dk8)
      (DQ.def_mk KX G ?da9 ?dl9 ?dc9 ?dk9)
      (DQ.def_mk KX G ?da10 ?dl10 ?dc10 ?dk10)
      (DQ.def_mk KX G ?da11 ?dl11 ?dc11 ?dk11)
      (DQ.def_mk KX G ?da12 ?dl12 ?dc12 ?dk12)
      (DQ.def_mk KX G ?da13 ?dl13 ?dc13 ?dk13)
      (DQ.def_mk KX G ?da14 ?dl14 ?dc14 ?dk14)
      (DQ.def_mk KX G ?da15 ?dl15 ?dc15 ?dk15)
      (DQ.def_mk KX G ?da16 ?dl16 ?dc16 ?dk16)
      (DQ.def_mk KX G ?da17 ?dl17 ?dc17 ?dk17)
      (DQ.def_mk KX G ?da18 ?dl18 ?dc18 ?dk18)
      (DQ.def_mk KX G ?da19 ?dl19 ?dc19 ?dk19)
      (DQ.def_mk KX G ?da20 ?dl20 ?dc20 ?dk20)
      (DQ.def_mk KX G ?da21 ?dl21 ?dc21 ?dk21)
      (DQ.def_mk KX G ?da22 ?dl22 ?dc22 ?dk22)
      (DQ.def_mk KX G ?da23 ?dl23 ?dc23 ?dk23)
      (DQ.def_mk KX G ?da24 ?dl24 ?dc24 ?dk24)
      (DQ.def_mk KX G ?da25 ?dl25 ?dc25 ?dk25)
      (DQ.def_mk KX G ?da26 ?dl26 ?dc26 ?dk26)
      (DQ.def_mk KX G ?da27 ?dl27 ?dc27 ?dk27)
      (DQ.def_mk KX G ?da28 ?dl28 ?dc28 ?dk28)
      (DQ.def_mk KX G ?da29 ?dl29 ?dc29 ?dk29)
      (DQ.def_mk KX G ?da30 ?dl30 ?dc30 ?dk30)
      (DQ.def_mk KX G ?da31 ?dl31 ?dc31 ?dk31)
      (DQ.def_mk KX G ?da32 ?dl32 ?dc32 ?dk32)
      (DQ.def_mk KX G ?da33 ?dl33 ?dc33 ?dk33)
      (DQ.def_mk KX G ?da34 ?dl34 ?dc34 ?dk34)
      (DQ.def_mk KX G ?da35 ?dl35 ?dc35 ?dk35)
      (DQ.def_mk KX G ?da36 ?dl36 ?dc36 ?dk36)
      (DQ.def_mk KX G ?da37 ?dl37 ?dc37 ?dk37)
      (PySem.W.mg_none_of KX G ?z0)
      (PySem.W.mg_none_of KX G ?z1)
      (PySem.W.mg_none_of KX G ?z2)
      (PySem.W.mg_none_of KX G ?z3)
      (PySem.W.mg_none_of KX G ?z4)
      (PySem.W.mg_none_of KX G ?z5)
      (PySem.W.mg_none_of KX G ?z6)
      (PySem.W.mg_none_of KX G ?z7)
      (PySem.W.mg_none_of KX G ?z8)
      (PySem.W.mg_none_of KX G ?z9)
      (PySem.W.mg_none_of KX G ?z10)
      (PySem.W.mg_none_of KX G ?z11)
      (PySem.W.mg_none_of KX G ?z12)
      (PySem.W.mg_none_of KX G ?z13)
    (case gL => k_is)
    (case mL => k_is)
    (case mE => rfl)
    (case mK => exact ⟨⟨_, _, rfl, rfl⟩, ⟨_, _, rfl, rfl⟩, ⟨_, _, rfl, rfl⟩, ⟨_, _, rfl, rfl⟩, ⟨_, _, rfl, rfl⟩, ⟨_, _, rfl, rfl⟩, ⟨_, _, rfl, rfl⟩, ⟨_, _, rfl, rfl⟩, ⟨_, _, rfl, rfl⟩, ⟨_, _, rfl, rfl⟩, trivial⟩)
    (case mW => decide)
    (case h0 => k_is)
    (case i0 => rfl)
    (case h1 => k_is)
    (case i1 => rfl)
    (case h2 => k_is)
    (case i2 => rfl)
    (case h3 => k_is)
    (case i3 => rfl)
    (case h4 => k_is)
    (case i4 => rfl)
    (case h5 => k_is)
    (case i5 => rfl)
    (case h6 => k_is)
    (case i6 => rfl)
    (case h7 => k_is)
    (case i7 => rfl)
    (case h8 => k_is)
    (case i8 => rfl)
    (case h9 => k_is)
    (case i9 => rfl)
    (case mN => k_is)
    (case c0 => k_is)
    (case e0 => decide +kernel)
    (case c1 => k_is)
    (case e1 => decide +kernel)
    (case c2 => k_is)
    (case e2 => rfl)
    (case c3 => k_is)
    (case l3 => k_is)
    (case t3 => rfl)
    (case d3 => rfl)
    (case zz3 => decide +kernel)
    (case e3 => decide +kernel)
    (case c4 => k_is)
    (case l4 => k_is)
    (case t4 => rfl)
    (case d4 => rfl)
    (case zz4 => decide +kernel)
    (case e4 => decide +kernel)
    (case c5 => k_is)
    (case l5 => k_is)
    (case t5 => rfl)
    (case d5 => rfl)
    (case zz5 => decide +kernel)
    (case e5 => decide +kernel)
    (case da0 => k_is)
    (case dl0 => k_is)
    (case dc0 => k_is)
    (case dk0 => k_is)
    (case da1 => k_is)
    (case dl1 => k_is)
    (case dc1 => k_is)
    (case dk1 => k_is)
    (case da2 => k_is)
    (case dl2 => k_is)
    (case dc2 => k_is)
    (case dk2 => k_is)
    (case da3 => k_is)
    (case dl3 => k_is)
    (case dc3 => k_is)
    (case dk3 => k_is)
    (case da4 => k_is)
    (case dl4 => k_is)
    (case dc4 => k_is)
    (case dk4 => k_is)
    (case da5 => k_is)
    (case dl5 => k_is)
    (case dc5 => k_is)
    (case dk5 => k_is)
    (case da6 => k_is)
    (case dl6 => k_is)
    (case dc6 => k_is)
    (case dk6 => k_is)
    (case da7 => k_is)
    (case dl7 => k_is)
    (case dc7 => k_is)
    (case dk7 => k_is)
    (case da8 => k_is)
    (case dl8 => k_is)
    (case dc8 => k_is)
    (case dk8 => k_is)
    (case da9 => k_is)
    (case dl9 => k_is)
    (case dc9 => k_is)
    (case dk9 => k_is)
    (case da10 => k_is)
    (case dl10 => k_is)
    (case dc10 => k_is)
    (case dk10 => k_is)
    (case da11 => k_is)
    (case dl11 => k_is)
    (case dc11 => k_is)
    (case dk11 => k_is)
    (case da12 => k_is)
    (case dl12 => k_is)
    (case dc12 => k_is)
    (case dk12 => k_is)
    (case da13 => k_is)
    (case dl13 => k_is)
    (case dc13 => k_is)
    (case dk13 => k_is)
    (case da14 => k_is)
    (case dl14 => k_is)
    (case dc14 => k_is)
    (case dk14 => k_is)
    (case da15 => k_is)
    (case dl15 => k_is)
    (case dc15 => k_is)
    (case dk15 => k_is)
    (case da16 => k_is)
    (case dl16 => k_is)
    (case dc16 => k_is)
    (case dk16 => k_is)
    (case da17 => k_is)
    (case dl17 => k_is)
    (case dc17 => k_is)
    (case dk17 => k_is)
    (case da18 => k_is)
    (case dl18 => k_is)
    (case dc18 => k_is)
    (case dk18 => k_is)
    (case da19 => k_is)
    (case dl19 => k_is)
    (case dc19 => k_is)
    (case dk19 => k_is)
    (case da20 => k_is)
    (case dl20 => k_is)
    (case dc20 => k_is)
    (case dk20 => k_is)
    (case da21 => k_is)
    (case dl21 => k_is)
    (case dc21 => k_is)
    (case dk21 => k_is)
    (case da22 => k_is)
    (case dl22 => k_is)
    (case dc22 => k_is)
    (case dk22 => k_is)
    (case da23 => k_is)
    (case dl23 => k_is)
    (case dc23 => k_is)
    (case dk23 => k_is)
    (case da24 => k_is)
    (case dl24 => k_is)
    (case dc24 => k_is)
    (case dk24 => k_is)
    (case da25 => k_is)
    (case dl25 => k_is)
    (case dc25 => k_is)
    (case dk25 => k_is)
    (case da26 => k_is)
    (case dl26 => k_is)
    (case dc26 => k_is)
    (case dk26 => k_is)
    (case da27 => k_is)
    (case dl27 => k_is)
    (case dc27 => k_is)
    (case dk27 => k_is)
    (case da28 => k_is)
    (case dl28 => k_is)
    (case dc28 => k_is)
    (case dk28 => k_is)
    (case da29 => k_is)
    (case dl29 => k_is)
    (case dc29 => k_is)
    (case dk29 => k_is)
    (case da30 => k_is)
    (case dl30 => k_is)
    (case dc30 => k_is)
    (case dk30 => k_is)
    (case da31 => k_is)
    (case dl31 => k_is)
    (case dc31 => k_is)
    (case dk31 => k_is)
    (case da32 => k_is)
    (case dl32 => k_is)
    (case dc32 => k_is)
    (case dk32 => k_is)
    (case da33 => k_is)
    (case dl33 => k_is)
    (case dc33 => k_is)
    (case dk33 => k_is)
    (case da34 => k_is)
    (case dl34 => k_is)
    (case dc34 => k_is)
    (case dk34 => k_is)
    (case da35 => k_is)
    (case dl35 => k_is)
    (case dc35 => k_is)
    (case dk35 => k_is)
    (case da36 => k_is)
    (case dl36 => k_is)
    (case dc36 => k_is)
    (case dk36 => k_is)
    (case da37 => k_is)
    (case dl37 => k_is)
    (case dc37 => k_is)
    (case dk37 => k_is)
    (case z0 => k_is)
    (case z1 => k_is)
    (case z2 => k_is)
    (case z3 => k_is)
    (case z4 => k_is)
    (case z5 => k_is)
    (case z6 => k_is)
    (case z7 => k_is)
    (case z8 => k_is)
    (case z9 => k_is)
    (case z10 => k_is)
    (case z11 => k_is)
    (case z12 => k_is)
    (case z13 => k_is)

