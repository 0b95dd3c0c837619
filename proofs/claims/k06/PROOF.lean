import PyProof.Rows.All
import Wide.All
import OpenK.AllK
import Wide.FinOn
import HandS.ForMost
import HandS.ForExc
import HandS.Wide
import HandS.WideBits
import HandS.Deep
import HandS.IsInst
import HandS.Style
import KE.SortData
import HandS.ExcInit
import HandS.Strs
import HandS.Walk
import KE.LtData
import PyProof.ReprRoads
import HandS.SetKeys
import PyProof.DictMoreH
import HandS.DictComp
import PyProof.ReprLen
import HandS.Defaults
import HandS.ExcField
import HandS.More
import KE.KExcIs
import KE.KExcMake
import HandS.TupAny
import HandS.Star
import HandS.MakeKw
import HandS.WordsExc
import HandS.ExcOwn
import HandS.SortInts
import HandS.IterVal
import HandS.ExcValue
import HandS.Dict
import PyProof.StrBlock2
import HandS.Conv
import HandS.HeadEnd
import PySem.Challenge.RW_depthquestions_k06_edits_refused
set_option Elab.async false
set_option linter.all false
set_option maxRecDepth 100000
set_option maxHeartbeats 4000000
namespace DQ
open PySem PySem.Spec PyProof.Rows L2
def topS (i : Nat) : Stmt := PySem.Challenge.pw_depthquestions_k06_edits_refused.main.body.getD i (.Pass ⟨0, 0, 0, 0⟩)
abbrev sHash : Stmt := topS 50
abbrev sRandom : Stmt := topS 51
abbrev sCell : Stmt := topS 52
abbrev sGenerator : Stmt := topS 53
theorem scHash : FnScope ["seed", "index", "mixed"] ["seed", "index"] (defScope sHash) := ⟨rfl, rfl, rfl, by decide +kernel, rfl, by decide +kernel, by decide +kernel⟩
theorem scRandom : FnScope ["generator", "bound", "drawn", "turn"] ["generator", "bound"] (defScope sRandom) := ⟨rfl, rfl, rfl, by decide +kernel, rfl, by decide +kernel, by decide +kernel⟩
theorem scCell : FnScope ["script", "index"] ["script", "index"] (defScope sCell) := ⟨rfl, rfl, rfl, by decide +kernel, rfl, by decide +kernel, by decide +kernel⟩
theorem scGenerator : FnScope ["script", "index", "seed"] ["script", "index"] (defScope sGenerator) := ⟨rfl, rfl, rfl, by decide +kernel, rfl, by decide +kernel, by decide +kernel⟩
theorem opr_mono {X : Cx} {f : Value → Value → Sem Value} {r r' : R2} (h : OpR X f r) (m : ∀ x y H Q, r' x y H Q → r x y H Q) : OpR X f r' := fun pins s σ H x y v u Q I rx ry q => h pins s σ H x y v u Q I rx ry (m x y H Q q)
/-- a remainder: a letter in its range -/
def rModL : R2 := fun x y H Q => ∃ i j, x = .int i ∧ y = .int j ∧ 0 < j ∧ ∀ r : Int, 0 ≤ r → r < j → r = i % j → Q (.int r) H
theorem op_modL {X : Cx} : OpR X (binaryOp .Mod) rModL := opr_mono op_mod fun x y H Q ⟨i, j, e1, e2, hj, q⟩ => ⟨i, j, e1, e2, hj, q _ (Int.emod_nonneg _ (by omega)) (Int.emod_lt_of_pos _ hj) rfl⟩
section
variable {P : Program} {w : World} {K : PySem.W.Frag} {mg : Str → Option Value} {base : Heap}
/-- the hash: some number below its modulus -/
def spHash : Sp := fun vs H Q _ => ∃ a b : Int, vs = [.int a, .int b] ∧ 0 ≤ a ∧ a < 2147483648 ∧ 0 ≤ b ∧ b ≤ 1073741824 ∧ ∀ r : Int, 0 ≤ r → r < 2147483647 → Q (.int r) H
theorem ok_hash {f : Addr} {fd : FuncData} (F : Fun K "_law_hash" "_law_hash" sHash f fd) (mi : mg "int" = none) : FnOk P w K mg base CX0 1 f fd ["seed", "index"] spHash := by
  refine F.ok scHash (fun vs H Q E h => ?_) (fun cdv A outer s H vs Q E hr h => ?_)
  · obtain ⟨a, b, rfl, _⟩ := h
    rfl
  · obtain ⟨a, b, rfl, ha, ha2, hb, hb2, q⟩ := h
    refine ⟨_, pss_cons (ps_set (i := 2) scHash.nd rfl (.inl rfl)
        (pe_op op_modL (pe_callTy call_int1 (by rfl) mi (by decide +kernel) (pa_cons
          (pe_op op_add (pe_op op_add (pe_op op_add (pe_op op_mul (pv 0) pe_int) (pe_op op_mul (pe_op op_mul pe_int (pv 1)) (pv 1))) (pe_op op_mul pe_int (pv 1))) pe_int) pa_nil)) pe_int))
      (pss_cons (ps_set (i := 2) scHash.nd rfl (.inl rfl)
        (pe_op op_modL (pe_callTy call_int1 (by rfl) mi (by decide +kernel) (pa_cons
          (pe_op op_add (pe_op op_add (pe_op op_mul (pv 2) (pv 2)) (pe_op op_mul pe_int (pv 1))) pe_int) pa_nil)) pe_int))
      (pss_one (ps_ret (pe_op op_modL (pe_callTy call_int1 (by rfl) mi (by decide +kernel) (pa_cons (pe_op op_mul (pv 2) pe_int) pa_nil)) pe_int)))), ?_⟩
    -- seed * c + c * index * index + c * index + c
    refine ⟨_, rfl, _, _, rfl, rfl, .inl ⟨by omega, by omega⟩, ?_⟩
    refine ⟨_, rfl, _, _, rfl, rfl, .inl ⟨by omega, by omega⟩, ?_⟩
    refine ⟨_, rfl, _, _, rfl, rfl, .inl ⟨by omega, by omega⟩, ?_⟩
    refine ⟨_, _, rfl, rfl, _, rfl, _, _, rfl, rfl, .inl ⟨by omega, by omega⟩, ?_⟩
    refine ⟨_, _, rfl, rfl, _, _, rfl, rfl, .inl ⟨_, rfl, _, _, rfl, rfl, by decide, fun m h0 h1 _ => ?_⟩⟩
    -- mixed * mixed + c * index + c
    refine ⟨_, rfl, _, rfl, _, _, rfl, rfl, .inl ⟨by omega, by omega⟩, ?_⟩
    refine ⟨_, rfl, _, _, rfl, rfl, .inl ⟨by omega, by omega⟩, ?_⟩
    refine ⟨_, _, rfl, rfl, _, _, rfl, rfl, .inl ⟨_, rfl, _, _, rfl, rfl, by decide, fun n h2 h3 _ => ?_⟩⟩
    refine ⟨_, rfl, _, _, rfl, rfl, .inl ⟨by omega, by omega⟩, .inl ⟨_, rfl, _, _, rfl, rfl, by decide, fun r h4 h5 _ => q r h4 h5⟩⟩
/-- the generator at g: three numbers, the count of hashed draws at most n -/
def Gen (H : Hp) (g : Addr) (n : Int) : Prop := ∃ a b c : Int, H g = some (.lst [.int a, .int b, .int c]) ∧ 0 ≤ a ∧ a.natAbs < 2 ^ 2000 ∧ 0 ≤ b ∧ b < 2147483647 ∧ 0 ≤ c ∧ c ≤ n
theorem Gen.mono {H : Hp} {g : Addr} {n m : Int} (h : Gen H g n) (k : n ≤ m) : Gen H g m := by
  obtain ⟨a, b, c, e, h1, h2, h3, h4, h5, h6⟩ := h
  exact ⟨a, b, c, e, h1, h2, h3, h4, h5, by omega⟩
/-- all but what stands at g is as it was -/
def But (g : Addr) (H H' : Hp) : Prop := ∀ b, b ≠ g → H' b = H b
def spRandom : Sp := fun vs H Q _ => ∃ (g : Addr) (m n : Int), vs = [.ref g, .int m] ∧ Gen H g n ∧ 1 ≤ m ∧ m < 618970019642690137449562112 ∧ n + 3 ≤ 1073741824 ∧
  ∀ (r : Int) (H' : Hp), 0 ≤ r → r < m → Gen H' g (n + 3) → But g H H' → Q (.int r) H'
/-- how great the drawn number is after so many turns -/
def top : Nat → Int
  | 0 => 1
  | 1 => 4294967296
  | 2 => 18446744073709551616
  | _ => 79228162514264337593543950336
theorem top_next {d : Int} {i : Nat} (d0 : 0 ≤ d) (h : d < top i) (hi : i < 3) : d < 79228162514264337593543950336 ∧ ∀ r : Int, r < 2147483647 → d * 2147483587 + r < top (i + 1) := by
  match i, hi with
  | 0, _ => simp only [top] at h ⊢; exact ⟨by omega, fun r hr => by omega⟩
  | 1, _ => simp only [top] at h ⊢; exact ⟨by omega, fun r hr => by omega⟩
  | 2, _ => simp only [top] at h ⊢; exact ⟨by omega, fun r hr => by omega⟩
theorem gen_set {H : Hp} {g : Addr} {o : HO} : But g H (upd H g o) := fun _ h => upd_ne h
theorem ok_random {f fh : Addr} {fd fdh : FuncData} (F : Fun K "_law_random" "_law_random" sRandom f fd) (G : FnOk P w K mg base CX0 1 fh fdh ["seed", "index"] spHash) (bh : Binds K fdh ["seed", "index"] []) (kh : PySem.W.keepIn K (.ref fh) = true) (mh : mg "_law_hash" = some (.ref fh))
    (mi : mg "int" = none) (mr : mg "range" = none) : FnOk P w K mg base CX0 2 f fd ["generator", "bound"] spRandom := by
  refine F.ok scRandom (fun vs H Q E h => ?_) (fun cdv A outer s H vs Q E hr h => ?_)
  · obtain ⟨g, m, n, rfl, _⟩ := h
    rfl
  obtain ⟨g, m, n, rfl, ⟨a, b, c, eg, a0, a1, b0, b1, c0, c1⟩, m1, m2, hn, q⟩ := h
  have nd := scRandom.nd
  refine ⟨_, pss_cons (ps_if (pt_cmpR op_gt (pe_ix ix_list (pv 0) pe_int (fun _ _ => rfl)) pe_int (nomark _))
      (pss_cons (ps_set (i := 2) nd rfl (.inl rfl) (pe_op op_modL (pe_callTy call_int1 (by rfl) mi (by decide +kernel) (pa_cons (pe_ix ix_list (pv 0) pe_int (fun _ _ => rfl)) pa_nil)) (pv 1)))
      (pss_cons (ps_asg (pe_op op_fdivW (pe_ix ix_list (pv 0) pe_int (fun _ _ => rfl)) (pv 1)) (pg_sub (pv 0) pe_int set_list))
      (pss_one (ps_ret (pv 2))))) pss_nil)
    (pss_cons (ps_set (i := 2) nd rfl (.inl rfl) pe_int)
    (pss_cons (ps_for PassesOwn.never rfl (pi_range1 (by rfl) mr (pa_cons (pe_op op_add pe_int (pe_op op_fdiv (pe_bits (pv 1)) pe_int)) pa_nil)) (pg_name (i := 3) nd rfl (.inl rfl))
      (pss_cons (ps_asg (pe_op op_add (pe_ix ix_list (pv 0) pe_int (fun _ _ => rfl)) pe_int) (pg_sub (pv 0) pe_int set_list))
      (pss_one (ps_set (i := 2) nd rfl (.inl rfl) (pe_op op_add (pe_op op_mulW (pv 2) pe_int)
        (pe_call G (hr.mono (by decide)) rfl mh kh bh .nil pass0 (pa_cons (pe_ix ix_list (pv 0) pe_int (fun _ _ => rfl)) (pa_cons (pe_ix ix_list (pv 0) pe_int (fun _ _ => rfl)) pa_nil))))))))
    (pss_one (ps_ret (pe_op op_modL (pe_callTy call_int1 (by rfl) mi (by decide +kernel) (pa_cons (pv 2) pa_nil)) (pv 1)))))), ?_⟩
  have L : SqL K H g [.int a, .int b, .int c] := SqL.of eg
  refine ⟨_, rfl, g, _, _, _, rfl, rfl, L, rfl, _, _, rfl, rfl, _, rfl, ite2 (fun ha => ?_) fun ha => ?_⟩
  · -- digits of the seed
    refine ⟨_, rfl, g, _, _, _, rfl, rfl, L, rfl, .inl ⟨_, rfl, _, rfl, _, _, rfl, rfl, by omega, fun r r0 r1 _ => ?_⟩⟩
    refine ⟨_, rfl, g, _, _, _, rfl, rfl, L, rfl, _, rfl, _, _, rfl, rfl, wide_div (b := 90) (by omega) (by omega) (by decide) (by decide), _, rfl, g, _, _, _, rfl, rfl, eg, rfl, ?_⟩
    refine ⟨_, rfl, ?_⟩
    refine q r _ r0 r1 ⟨_, _, _, upd_same, Int.ediv_nonneg a0 (by omega), ?_, b0, b1, c0, by omega⟩ gen_set
    have h1 : a / m ≤ a := Int.ediv_le_self _ a0
    have h2 : 0 ≤ a / m := Int.ediv_nonneg a0 (by omega)
    exact wide_le h2 h1 a1
  · -- hashed
    have hb1 := intBits_le (a := m) (k := 89) (by omega)
    have hb0 : (0 : Int) ≤ ((Builtin.Int.intBits m : Nat) : Int) := Int.natCast_nonneg _
    have hb2 : ((Builtin.Int.intBits m : Nat) : Int) / 30 ≤ 2 := by omega
    have hb3 : 0 ≤ ((Builtin.Int.intBits m : Nat) : Int) / 30 := by omega
    refine ⟨_, rfl, _, rfl, _, _, rfl, rfl, ⟨by decide, by decide⟩, _, _, rfl, rfl, _, rfl, by omega, by omega, ?_⟩
    generalize ((Builtin.Int.intBits m : Nat) : Int) / 30 = z at hb2 hb3
    refine for_range (lo := 0) (n := (1 + z).toNat) (fun i σ H1 => ∃ (d : Int) (y : Option V), σ = [some (.ref g), some (.int m), some (.int d), y] ∧ 0 ≤ d ∧ d < top i ∧ (∃ c' : Int, H1 g = some (.lst [.int a, .int b, .int c']) ∧ 0 ≤ c' ∧ c' ≤ c + i) ∧ But g H H1)
      ⟨0, none, rfl, by decide, by decide, ⟨c, eg, c0, by omega⟩, fun _ _ => rfl⟩ (fun i σ H1 hi hP => ?_) (fun σ H1 hP => ?_)
    · obtain ⟨d, y, rfl, d0, d1, ⟨c', e1, c2, c3⟩, bt⟩ := hP
      have L1 : SqL K H1 g [.int a, .int b, .int c'] := SqL.of e1
      -- generator[2] = generator[2] + 1
      refine ⟨_, rfl, g, _, _, _, rfl, rfl, L1, rfl, _, _, rfl, rfl, _, rfl, g, _, _, _, rfl, rfl, e1, rfl, ?_⟩
      have L2 : SqL K (upd H1 g (.lst [.int a, .int b, .int (c' + 1)])) g [.int a, .int b, .int (c' + 1)] := SqL.of upd_same
      have hd := top_next d0 d1 (show i < 3 by omega)
      refine ⟨_, rfl, d, 2147483587, rfl, rfl, wide_mul (a := 96) (b := 32) (by omega) (by decide) (by decide) (by decide) (by decide), ?_⟩
      refine ⟨_, rfl, g, _, _, _, rfl, rfl, L2, rfl, _, rfl, g, _, _, _, rfl, rfl, L2, rfl, ?_⟩
      refine ⟨_, _, rfl, b0, by omega, by omega, by omega, fun r r0 r1 => ?_⟩
      refine ⟨_, _, rfl, rfl, _, _, rfl, by omega, hd.2 r r1, ⟨c' + 1, upd_same, by omega, by omega⟩, fun x hx => ?_⟩
      · rw [upd_ne hx]
        exact bt x hx
    · obtain ⟨d, y, rfl, d0, d1, ⟨c', e1, c2, c3⟩, bt⟩ := hP
      refine ⟨_, rfl, .inl ⟨_, rfl, _, rfl, _, _, rfl, rfl, by omega, fun r r0 r1 _ => ?_⟩⟩
      exact q r _ r0 r1 ⟨a, b, c', e1, a0, a1, b0, b1, c2, by omega⟩ bt
theorem same_new {H : Hp} {p : Addr} {o : HO} (h : H p = none) : Same H (upd H p o) := fun b x e => by
  rw [upd_ne (ne_of_none e h)]
  exact e
def spCell (K : PySem.W.Frag) : Sp := fun vs H Q _ => ∃ (a : Addr) (ns : List Int) (i : Nat), vs = [.ref a, .int i] ∧ SqL K H a (ns.map V.int) ∧ ∀ (r : Int) (H' : Hp), Same H H' → Q (.int r) H'
theorem ok_cell {f : Addr} {fd : FuncData} (F : Fun K "_law_cell" "_law_cell" sCell f fd) (ml : mg "len" = none) (ms : mg "sum" = none) : FnOk P w K mg base CX0 1 f fd ["script", "index"] (spCell K) := by
  refine F.ok scCell (fun vs H Q E h => ?_) (fun cdv A outer s H vs Q E hr h => ?_)
  · obtain ⟨a, ns, i, rfl, _⟩ := h
    rfl
  obtain ⟨a, ns, i, rfl, L, q⟩ := h
  refine ⟨_, pss_cons (ps_if (pt_cmpR op_lt (pv 1) (pe_callB call_len_seq (by rfl) ml PySem.boot_len (pa_cons (pv 0) pa_nil)) (nomark _)) (pss_one (ps_ret (pe_ix ix_list (pv 0) (pv 1) (fun _ _ => rfl)))) pss_nil)
    (pss_one (ps_ret (pe_op op_modL (pe_callB (cr_sum rfl) (by rfl) ms (by decide +kernel) (pa_cons (pe_slice sl_list (pv 0) po_none (po_some pe_int)) pa_nil)) pe_int))), ?_⟩
  refine ⟨_, rfl, _, rfl, a, _, rfl, .inl L, _, _, rfl, rfl, _, rfl, ite2 (fun hi => ?_) fun _ => ?_⟩
  · have hl : i < ns.length := by
      have e := of_decide_eq_true hi
      rw [List.length_map] at e
      omega
    refine ⟨_, rfl, _, rfl, a, _, _, _, rfl, rfl, L, atI_nat (v := .int ns[i]) ?_, q _ _ (Same.refl _)⟩
    rw [List.getElem?_map, List.getElem?_eq_getElem hl]
    rfl
  · refine ⟨_, rfl, 1, rfl, a, _, rfl, L, fun p hp => ?_⟩
    have e : cutV (ns.map V.int) none (some 1) = (ns.take (HT.sIx (ns.map V.int).length (ns.map V.int).length (some 1) - HT.sIx (ns.map V.int).length 0 none) |>.map V.int) := by
      unfold cutV
      rw [HT.sIx_none, List.drop_zero, List.map_take]
    rw [e]
    exact ⟨p, _, rfl, SqL.of upd_same, _, _, rfl, rfl, by decide, fun r _ _ _ => q r _ (same_new hp)⟩
theorem op_powW {X : Cx} : OpR X (binaryOp .Pow) (rI (fun i j => 0 ≤ j ∧ (Builtin.Int.intBits i : Int) * j ≤ 2 ^ 27) fun i j => .int (i ^ j.toNat)) := opI fun _ _ _ _ _ _ _ hc q => pow_int hc.1 hc.2 q
def spGenerator (K : PySem.W.Frag) : Sp := fun vs H Q _ => ∃ (a : Addr) (ns : List Int) (i : Nat), vs = [.ref a, .int i] ∧ i ≤ 100 ∧ SqL K H a (ns.map V.int) ∧ ∀ (p : Addr) (H' : Hp), Same H H' → H p = none → Gen H' p (1000 * i) → Q (.ref p) H'
theorem ok_generator {f fc : Addr} {fd fdc : FuncData} (F : Fun K "_law_generator" "_law_generator" sGenerator f fd) (G : FnOk P w K mg base CX0 1 fc fdc ["script", "index"] (spCell K)) (bc : Binds K fdc ["script", "index"] []) (kc : PySem.W.keepIn K (.ref fc) = true) (mc : mg "_law_cell" = some (.ref fc))
    (mi : mg "int" = none) (mm : mg "max" = none) : FnOk P w K mg base CX0 2 f fd ["script", "index"] (spGenerator K) := by
  refine F.ok scGenerator (fun vs H Q E h => ?_) (fun cdv A outer s H vs Q E hr h => ?_)
  · obtain ⟨a, ns, i, rfl, _⟩ := h
    rfl
  obtain ⟨a, ns, i, rfl, hi, L, q⟩ := h
  refine ⟨_, pss_cons (ps_set (i := 2) scGenerator.nd rfl (.inl rfl) (pe_call G (hr.mono (by decide)) rfl mc kc bc .nil pass0 (pa_cons (pv 0) (pa_cons (pv 1) pa_nil))))
    (pss_one (ps_ret (pe_lst (pa_cons (pe_op op_modL (pe_callTy call_int1 (by rfl) mi (by decide +kernel) (pa_cons (pe_callB (call_max2 rfl) (by rfl) mm (by decide +kernel) (pa_cons (pe_op op_sub (pv 2) (pe_op op_pow pe_int pe_int)) (pa_cons pe_int pa_nil))) pa_nil)) (pe_op op_powW (pe_op op_pow pe_int pe_int) pe_int))
      (pa_cons (pe_op op_modL (pe_callTy call_int1 (by rfl) mi (by decide +kernel) (pa_cons (pv 2) pa_nil)) pe_int) (pa_cons (pe_op op_mul pe_int (pv 1)) pa_nil)))))), ?_⟩
  refine ⟨_, rfl, _, rfl, a, ns, i, rfl, L, fun seed H1 s1 => ?_⟩
  refine ⟨_, rfl, _, _, rfl, rfl, ⟨by decide, by decide, by decide⟩, _, _, rfl, rfl, _, _, rfl, .inl ⟨_, rfl, ?_⟩⟩
  refine ⟨_, _, rfl, rfl, ⟨by decide, by decide, by decide⟩, _, _, rfl, rfl, ⟨by decide, by decide +kernel⟩, ?_⟩
  refine ⟨_, _, rfl, rfl, by decide +kernel, fun x x0 x1 _ => ?_⟩
  refine ⟨_, rfl, .inl ⟨_, rfl, _, _, rfl, rfl, by decide, fun y y0 y1 _ => ?_⟩⟩
  refine ⟨_, rfl, _, _, rfl, rfl, .inl ⟨by decide, by decide⟩, ?_⟩
  refine ⟨by show 3 ≤ sizeLine; decide, fun p hp => ?_⟩
  refine q p _ (s1.trans (same_new hp)) (s1.free hp) ⟨x, y, _, upd_same, x0, ?_, y0, y1, by omega, by omega⟩
  exact wide_le x0 (Int.le_of_lt x1) (by decide +kernel)
end
end DQ

set_option Elab.async false
set_option linter.all false
set_option maxRecDepth 100000
set_option maxHeartbeats 1000000
namespace DQ
open PySem PySem.Spec PyProof.Rows
open L2 (Hp V VK XK R2 OpR SqL SqT Inv RelV Vals HOk Cx)
/-! ### data on the heap, empty dicts among it -/
mutual
inductive Dp (K : PySem.W.Frag) (H : Hp) : V → PyData → Prop
  | non : Dp K H .non .none
  | bl (b : Bool) : Dp K H (.bl b) (.bool b)
  | int (i : Int) : Dp K H (.int i) (.int i)
  | str (x : Str) : Dp K H (.str x) (.str x)
  | lst {a : Addr} {xs : List V} {ds : List PyData} (h : SqL K H a xs) (r : DpAll K H xs ds) : Dp K H (.ref a) (.list ds)
  | tup {a : Addr} {xs : List V} {ds : List PyData} (h : SqT K H a xs) (r : DpAll K H xs ds) : Dp K H (.ref a) (.tuple ds)
  | dct {a : Addr} (h : H a = some (.dK [])) : Dp K H (.ref a) (.dict [])
inductive DpAll (K : PySem.W.Frag) (H : Hp) : List V → List PyData → Prop
  | nil : DpAll K H [] []
  | cons {v : V} {vs : List V} {d : PyData} {ds : List PyData} (h : Dp K H v d) (r : DpAll K H vs ds) : DpAll K H (v :: vs) (d :: ds)
end
mutual
theorem Dp.old {K : PySem.W.Frag} {H : Hp} : ∀ (d : PyData) {v : V}, Dp K H v d → d.hasDict = false → L2.Dp K H v d
  | .none, _, h, _ => by cases h; exact .non
  | .bool b, _, h, _ => by cases h; exact .bl b
  | .int i, _, h, _ => by cases h; exact .int i
  | .str x, _, h, _ => by cases h; exact .str x
  | .list ds, _, h, n => by
    cases h with
    | lst h r => exact .lst h (DpAll.old ds r (by simpa only [PyData.hasDict] using n))
  | .tuple ds, _, h, n => by
    cases h with
    | tup h r => exact .tup h (DpAll.old ds r (by simpa only [PyData.hasDict] using n))
  | .dict _, _, _, n => by simp [PyData.hasDict] at n
theorem DpAll.old {K : PySem.W.Frag} {H : Hp} : ∀ (ds : List PyData) {vs : List V}, DpAll K H vs ds → PyData.hasDictAll ds = false → L2.DpAll K H vs ds
  | [], _, h, _ => by cases h; exact .nil
  | d :: ds, _, h, n => by
    simp only [PyData.hasDictAll, Bool.or_eq_false_iff] at n
    cases h with
    | cons a b => exact .cons (Dp.old d a n.1) (DpAll.old ds b n.2)
end
mutual
theorem Dp.reads {X : Cx} {pins : List (Addr × Obj)} {σ : L2.St} {H : Hp} {s : Shared} (I : Inv X pins σ H s) : ∀ (d : PyData) (v : V) (u : Value), Dp X.K H v d → RelV v u → ∃ as, Reads s.heap u d as
  | .none, _, _, h, r => by cases h; cases r; exact ⟨_, Reads.none⟩
  | .bool b, _, _, h, r => by cases h; cases r; exact ⟨_, Reads.bool b⟩
  | .int i, _, _, h, r => by
    cases h
    obtain ⟨t, rfl⟩ := r
    exact ⟨_, Reads.int i t⟩
  | .str x, _, _, h, r => by
    cases h
    obtain ⟨t, rfl⟩ := r
    exact ⟨_, Reads.str x t⟩
  | .list ds, _, _, h, r => by
    cases h with
    | lst hs ha =>
      obtain rfl : _ = Value.ref _ := r
      obtain ⟨its, rv, ⟨o, n, ho, hc, _, hd⟩, _⟩ := I.list hs
      obtain ⟨as, hr⟩ := DpAll.reads I ds _ its ha rv
      exact ⟨_, Reads.list ho hc hd hr⟩
  | .tuple ds, _, _, h, r => by
    cases h with
    | tup hs ha =>
      obtain rfl : _ = Value.ref _ := r
      obtain ⟨its, rv, ⟨o, ho, hc, n, hd⟩, _⟩ := I.tuple hs
      obtain ⟨as, hr⟩ := DpAll.reads I ds _ its ha rv
      exact ⟨_, Reads.tuple ho hc hd hr⟩
  | .dict kvs, _, _, h, r => by
    cases h with
    | dct hs =>
      obtain rfl : _ = Value.ref _ := r
      obtain ⟨_, _, vs, kv, o, es, ep, ho, ex, hd, _, ps, _⟩ := L2.dk_of I.hok hs
      have e0 : vs = [] := by
        cases kv
        rfl
      subst e0
      have l := PySem.Pairs.length ps
      have e1 : es.toList = [] := List.length_eq_zero_iff.mp (by simpa using l)
      refine ⟨_, Reads.dict ho ex.1 hd (as := []) (bs := []) ?_ ?_⟩
      · rw [e1]
        exact ReadsAll.nil
      · rw [e1]
        exact ReadsAll.nil
theorem DpAll.reads {X : Cx} {pins : List (Addr × Obj)} {σ : L2.St} {H : Hp} {s : Shared} (I : Inv X pins σ H s) : ∀ (ds : List PyData) (vs : List V) (us : List Value), DpAll X.K H vs ds → Vals vs us → ∃ as, ReadsAll s.heap us ds as
  | [], _, _, h, r => by cases h; cases r; exact ⟨_, ReadsAll.nil⟩
  | d :: ds, _, _, h, r => by
    cases h with
    | cons h1 h2 =>
      cases r with
      | cons r1 r2 =>
        obtain ⟨as, q1⟩ := Dp.reads I d _ _ h1 r1
        obtain ⟨bs, q2⟩ := DpAll.reads I ds _ _ h2 r2
        exact ⟨_, ReadsAll.cons q1 q2⟩
end
theorem shaped_plain {d : PyData} (h : SeqAt.shaped d = true) : d.hasDict = false := PyData.hasDict_of_canLay d (SeqAt.canLay_of_shaped h)
section
variable {X : Cx}
def rEqD (K : PySem.W.Frag) : R2 := fun x y H Q => ∃ d e, Dp K H x d ∧ Dp K H y e ∧ SeqAt.shaped d = true ∧ SeqAt.shaped e = true ∧ Q (.bl (PyData.eqv d e)) H
def rNeD (K : PySem.W.Frag) : R2 := fun x y H Q => ∃ d e, Dp K H x d ∧ Dp K H y e ∧ SeqAt.shaped d = true ∧ SeqAt.shaped e = true ∧ Q (.bl (!PyData.eqv d e)) H
theorem op_eqD (hu : X.A.units + 64 < cLine) : OpR X (compareOp .Eq) (rEqD X.K) := opr_mono (L2.op_eqD hu) fun x y H Q ⟨d, e, hd, he, sd, se, q⟩ => ⟨d, e, hd.old d (shaped_plain sd), he.old e (shaped_plain se), sd, se, q⟩
theorem op_neD (hu : X.A.units + 64 < cLine) : OpR X (compareOp .NotEq) (rNeD X.K) := opr_mono (L2.op_neD hu) fun x y H Q ⟨d, e, hd, he, sd, se, q⟩ => ⟨d, e, hd.old d (shaped_plain sd), he.old e (shaped_plain se), sd, se, q⟩
def rInD (K : PySem.W.Frag) : R2 := fun x y H Q => ∃ d ds, Dp K H x d ∧ Dp K H y (.list ds) ∧ SeqAt.shaped d = true ∧ SeqAt.shaped (.list ds) = true ∧ Q (.bl (ds.any fun z => PyData.eqv z d)) H
def rNotInD (K : PySem.W.Frag) : R2 := fun x y H Q => ∃ d ds, Dp K H x d ∧ Dp K H y (.list ds) ∧ SeqAt.shaped d = true ∧ SeqAt.shaped (.list ds) = true ∧ Q (.bl (!ds.any fun z => PyData.eqv z d)) H
theorem op_inD (hu : X.A.units + 65 < cLine) : OpR X (compareOp .In) (rInD X.K) := opr_mono (L2.op_inD hu) fun x y H Q ⟨d, ds, hd, he, sd, se, q⟩ => ⟨d, ds, hd.old d (shaped_plain sd), he.old _ (shaped_plain se), sd, se, q⟩
theorem op_notInD (hu : X.A.units + 65 < cLine) : OpR X (compareOp .NotIn) (rNotInD X.K) := opr_mono (L2.op_notInD hu) fun x y H Q ⟨d, ds, hd, he, sd, se, q⟩ => ⟨d, ds, hd.old d (shaped_plain sd), he.old _ (shaped_plain se), sd, se, q⟩
end
end DQ

set_option Elab.async false
set_option linter.all false
set_option maxRecDepth 100000
set_option maxHeartbeats 4000000
namespace DQ
open PySem PySem.Spec PyProof.Rows L2
abbrev sOrder : Stmt := topS 54
theorem scOrder : FnScope ["generator", "things", "left", "found"] ["generator", "things"] (defScope sOrder) := ⟨rfl, rfl, rfl, by decide +kernel, rfl, by decide +kernel, by decide +kernel⟩
/-! ### data read off the heap -/
theorem dp_ints {K : PySem.W.Frag} {H : Hp} : ∀ ns : List Int, DpAll K H (ns.map V.int) (ns.map PyData.int)
  | [] => .nil
  | n :: r => .cons (.int n) (dp_ints r)
theorem flat_ints : ∀ ns : List Int, PyData.canLayAll0 (ns.map PyData.int) = true ∧ PyData.depthAll (ns.map PyData.int) = 0
  | [] => ⟨rfl, rfl⟩
  | n :: r => ⟨by show (true && PyData.canLayAll0 (r.map PyData.int)) = true; rw [(flat_ints r).1]; rfl, by show max 0 (PyData.depthAll (r.map PyData.int)) = 0; rw [(flat_ints r).2]; rfl⟩
theorem shaped_of {d : PyData} (h1 : d.canLay0 = true) (h2 : d.depth ≤ 64) : SeqAt.shaped d = true := by
  unfold SeqAt.shaped
  rw [h1, decide_eq_true h2]
  rfl
theorem shaped_ints (ns : List Int) : SeqAt.shaped (.list (ns.map PyData.int)) = true := shaped_of (flat_ints ns).1 (by show PyData.depthAll (ns.map PyData.int) + 1 ≤ 64; rw [(flat_ints ns).2]; decide)
/-- all but what stands at g stays, new things may come -/
def Keep (g : Addr) (H H' : Hp) : Prop := ∀ b o, b ≠ g → H b = some o → H' b = some o
theorem Keep.refl (g : Addr) (H : Hp) : Keep g H H := fun _ _ _ h => h
theorem Keep.trans {g : Addr} {H H1 H2 : Hp} (a : Keep g H H1) (b : Keep g H1 H2) : Keep g H H2 := fun c o n h => b c o n (a c o n h)
theorem Keep.of_same {g : Addr} {H H' : Hp} (s : Same H H') : Keep g H H' := fun b o _ h => s b o h
theorem Keep.of_but {g : Addr} {H H' : Hp} (s : But g H H') : Keep g H H' := fun b o n h => (s b n).trans h
theorem Keep.seq {K : PySem.W.Frag} {g a : Addr} {H H' : Hp} {xs : List V} (k : Keep g H H') (ne : a ≠ g) (h : SqL K H a xs) : SqL K H' a xs := by
  rcases h with (h | ⟨o, h⟩) | h
  · exact .inl (.inl (k _ _ ne h))
  · exact .inl (.inr ⟨o, k _ _ ne h⟩)
  · exact .inr h
theorem Gen.at {H : Hp} {g : Addr} {n : Int} (h : Gen H g n) : ∃ o, H g = some o := let ⟨_, _, _, e, _⟩ := h; ⟨_, e⟩
theorem Gen.same {H H' : Hp} {g : Addr} {n : Int} (h : Gen H g n) (s : Same H H') : Gen H' g n := by
  obtain ⟨a, b, c, e, r⟩ := h
  exact ⟨a, b, c, s _ _ e, r⟩
theorem Gen.upd {H : Hp} {g b : Addr} {n : Int} {o : HO} (h : Gen H g n) (ne : g ≠ b) : Gen (upd H b o) g n := by
  obtain ⟨x, y, c, e, r⟩ := h
  exact ⟨x, y, c, by rw [upd_ne ne]; exact e, r⟩
theorem Gen.ne {H : Hp} {g p : Addr} {n : Int} (h : Gen H g n) (hp : H p = none) : p ≠ g := fun e => by
  obtain ⟨o, z⟩ := h.at
  rw [← e, hp] at z
  cases z
theorem But.free {g p : Addr} {H H' : Hp} {n : Int} (k : But g H H') (G : Gen H g n) (h : H p = none) : H' p = none := (k p (G.ne h)).trans h
/-- what was free before is free unless something was put there -/
theorem Keep.free {g p : Addr} {H H' : Hp} (k : Keep g H H') (G : ∃ o, H g = some o) (h : H' p = none) (hg : ∃ o, H' g = some o) : H p = none := by
  by_cases e : p = g
  · obtain ⟨o, z⟩ := hg
    rw [e, z] at h
    cases h
  · cases q : H p with
    | none => rfl
    | some o =>
      rw [k p o e q] at h
      cases h
theorem perm_erase {α : Type} : ∀ {l : List α} {k : Nat} {y : α}, l[k]? = some y → (y :: l.eraseIdx k).Perm l
  | [], k, y, h => by simp at h
  | x :: l, 0, y, h => by
    have e : x = y := by simpa using h
    subst e
    exact List.Perm.refl _
  | x :: l, k + 1, y, h => by
    have h' : l[k]? = some y := by simpa using h
    exact (List.Perm.swap x y (l.eraseIdx k)).trans ((perm_erase h').cons x)
theorem seq_at {r : Int} {m : Nat} (h0 : 0 ≤ r) (h1 : r < m) : seqIndex? r m = some r.toNat := by
  show (if (decide (0 ≤ (if r < 0 then r + m else r)) && decide ((if r < 0 then r + m else r) < m)) = true then some (if r < 0 then r + m else r).toNat else none) = _
  rw [if_neg (show ¬ r < 0 by omega), decide_eq_true h0, decide_eq_true h1]
  rfl
/-- how long the list at l is -/
def size (H : Hp) (l : Addr) : Nat := match H l with
  | some (.lst xs) => xs.length
  | _ => 0
theorem size_of {H : Hp} {l : Addr} {xs : List V} (h : H l = some (.lst xs)) : size H l = xs.length := by
  unfold size
  rw [h]
theorem map_erase {α β : Type} (f : α → β) : ∀ (l : List α) (k : Nat), (l.map f).eraseIdx k = (l.eraseIdx k).map f
  | [], _ => rfl
  | _ :: _, 0 => rfl
  | x :: l, k + 1 => congrArg (f x :: ·) (map_erase f l k)
section
variable {P : Program} {w : World} {K : PySem.W.Frag} {mg : Str → Option Value} {base : Heap}
/-- the same numbers in some order, in a new list -/
def spOrder (K : PySem.W.Frag) : Sp := fun vs H Q _ => ∃ (g t : Addr) (ns : List Int) (n : Int), vs = [.ref g, .ref t] ∧ SqL K H t (ns.map V.int) ∧ t ≠ g ∧ Gen H g n ∧ ns.length ≤ 100 ∧ n + 3 * ns.length ≤ 1073741824 ∧
  ∀ (p : Addr) (ms : List Int) (H' : Hp), ms.Perm ns → Keep g H H' → H p = none → H' p = some (.lst (ms.map V.int)) → Gen H' g (n + 3 * ns.length) → Q (.ref p) H'
theorem ok_order {f fr : Addr} {fd fdr : FuncData} (F : Fun K "_law_drawn_order" "_law_drawn_order" sOrder f fd) (G : FnOk P w K mg base CX0 2 fr fdr ["generator", "bound"] spRandom) (br : Binds K fdr ["generator", "bound"] []) (kr : PySem.W.keepIn K (.ref fr) = true) (mr : mg "_law_random" = some (.ref fr))
    (ml : mg "list" = none) (mn : mg "len" = none) : FnOk P w K mg base CX0 3 f fd ["generator", "things"] (spOrder K) := by
  refine F.ok scOrder (fun vs H Q E h => ?_) (fun cdv A outer s H vs Q E hr h => ?_)
  · obtain ⟨g, t, ns, n, rfl, _⟩ := h
    rfl
  obtain ⟨g, t, ns, n, rfl, L, ntg, gen, h100, hn, q⟩ := h
  have nd := scOrder.nd
  refine ⟨_, pss_cons (ps_par (i := 2) (j := 3) rfl nd rfl rfl (by decide) rfl rfl (pa_cons (pe_callTy call_list_of (by rfl) ml (by decide +kernel) (pa_cons (pv 1) pa_nil)) (pa_cons (pe_lst pa_nil) pa_nil)) (by rfl))
    (pss_cons (ps_while PassesOwn.never (pt_cmpR (op_neD hr.units) (pv 2) (pe_lst pa_nil) (nomark _))
      (pss_one (ps_expr (pe_bm PySem.F.plainAttrs_list PySem.F.slot_list_append PySem.F.type_list_append mt_append (pv 3) (pa_cons
        (pe_bm PySem.F.plainAttrs_list PySem.F.slot_list_pop PySem.F.type_list_pop mt_popAt (pv 2) (pa_cons
          (pe_call G (hr.mono (by decide)) rfl mr kr br .nil pass0 (pa_cons (pv 0) (pa_cons (pe_callB call_len_seq (by rfl) mn PySem.boot_len (pa_cons (pv 2) pa_nil)) pa_nil))) pa_nil)) pa_nil)))))
    (pss_one (ps_ret (pv 3)))), ?_⟩
  refine ⟨_, rfl, t, _, rfl, .inl L, fun l nl => ⟨Nat.zero_le _, fun p np => ⟨_, _, rfl, ?_⟩⟩⟩
  have npl : p ≠ l := fun e => by
    rw [e, upd_same] at np
    cases np
  have np0 : H p = none := by
    rw [upd_ne npl] at np
    exact np
  have nlg : l ≠ g := gen.ne nl
  have npg : p ≠ g := gen.ne np0
  refine while_by (fun σ H' => ∃ ls fs : List Int, σ = [some (.ref g), some (.ref t), some (.ref l), some (.ref p)] ∧ (fs ++ ls).Perm ns ∧ Keep g H H' ∧ H' l = some (.lst (ls.map V.int)) ∧ H' p = some (.lst (fs.map V.int)) ∧ Gen H' g (n + 3 * fs.length)) (fun _ H' => size H' l)
    ⟨ns, [], rfl, List.Perm.refl _, Keep.of_same ((same_new nl).trans (same_new np)), by rw [upd_ne npl.symm, upd_same], upd_same, by simpa using (gen.upd nlg.symm).upd npg.symm⟩ (fun σ H' hP => ?_) fun σ H' Q Q' h hc => ?_
  · obtain ⟨ls, fs, rfl, pm, kp, el, ep, gn⟩ := hP
    refine ⟨_, rfl, Nat.zero_le _, fun e ne => ?_⟩
    have nel : l ≠ e := ne_of_none el ne
    have nep : p ≠ e := ne_of_none ep ne
    have me := same_new ne (o := .lst [])
    refine ⟨_, .list [], .lst (SqL.of (me _ _ el)) (dp_ints ls), .lst (SqL.of upd_same) .nil, shaped_ints ls, by decide +kernel, ?_⟩
    cases ls with
    | nil =>
      refine ⟨false, rfl, ?_⟩
      rw [List.append_nil] at pm
      refine ⟨_, rfl, q p fs _ pm (kp.trans (Keep.of_same me)) np0 (me _ _ ep) ?_⟩
      rw [← pm.length_eq]
      exact gn.same me
    | cons y ys =>
      refine ⟨true, rfl, ?_⟩
      have hlen : (fs ++ y :: ys).length = ns.length := pm.length_eq
      rw [List.length_append, List.length_cons] at hlen
      refine ⟨_, rfl, .inl ⟨rfl, _, SqL.of (me _ _ ep)⟩, _, rfl, .inl ⟨rfl, _, SqL.of (me _ _ el)⟩, _, rfl, _, rfl, l, _, rfl, .inl (SqL.of (me _ _ el)), g, _, _, rfl, gn.same me, ?_, ?_, ?_, fun r H2 r0 r1 gn2 bt => ?_⟩
      · rw [List.length_map, List.length_cons]
        omega
      · rw [List.length_map, List.length_cons]
        omega
      · omega
      rw [List.length_map] at r1
      have hc : (y :: ys).length = ys.length + 1 := rfl
      have hk : r.toNat < (y :: ys).length := by omega
      have el2 : H2 l = some (.lst ((y :: ys).map V.int)) := (bt l nlg).trans (me _ _ el)
      have ep2 : H2 p = some (.lst (fs.map V.int)) := (bt p npg).trans (me _ _ ep)
      have eg : ((y :: ys).map V.int)[r.toNat]? = some (.int ((y :: ys)[r.toNat])) := by
        rw [List.getElem?_map, List.getElem?_eq_getElem hk]
        rfl
      refine ⟨l, _, r, r.toNat, _, rfl, rfl, el2, by omega, by omega, seq_at r0 (by rw [List.length_map]; exact r1), eg, ?_⟩
      refine ⟨p, _, _, rfl, rfl, by rw [upd_ne npl]; exact ep2, ?_, ?_⟩
      · rw [List.length_map]
        exact small1000 (by omega)
      have keep2 : Keep g H H2 := (kp.trans (Keep.of_same me)).trans (Keep.of_but bt)
      refine ⟨⟨(y :: ys).eraseIdx r.toNat, fs ++ [(y :: ys)[r.toNat]], rfl, ?_, fun b o nb eb => ?_, ?_, ?_, ?_⟩, ?_⟩
      · rw [List.append_assoc]
        exact (List.Perm.append_left fs (perm_erase (List.getElem?_eq_getElem hk))).trans pm
      · rw [upd_ne (ne_of_none eb np0), upd_ne (ne_of_none eb nl)]
        exact keep2 b o nb eb
      · rw [upd_ne npl.symm, upd_same, map_erase]
      · rw [upd_same, List.map_append]
        rfl
      · rw [List.length_append, List.length_singleton]
        exact ((gn2.upd nlg.symm).upd npg.symm).mono (by omega)
      · show size _ l < size _ l
        rw [size_of (show upd (upd H2 l _) p _ l = some (.lst _) by rw [upd_ne npl.symm, upd_same]), size_of el, List.length_eraseIdx, if_pos (by rw [List.length_map]; exact hk), List.length_map]
        omega
  · obtain ⟨v, e, l0, hp⟩ := hc
    exact ⟨v, e, l0, fun p hp' => let ⟨d, e', a1, a2, a3, a4, k, e5, z⟩ := hp p hp'; ⟨d, e', a1, a2, a3, a4, k, e5, h _ _ z⟩⟩
end
end DQ

namespace DQ
/-- one-to-one: no first twice, no second twice, all among the items -/
def OneToOne (ns : List Int) (ps : List (Int × Int)) : Prop := (ps.map (·.1)).Nodup ∧ (ps.map (·.2)).Nodup ∧ ∀ p ∈ ps, p.1 ∈ ns ∧ p.2 ∈ ns
theorem OneToOne.sub {ns : List Int} {ps qs : List (Int × Int)} (h : OneToOne ns qs) (s : ps.Sublist qs) : OneToOne ns ps :=
  ⟨(s.map (·.1)).nodup h.1, (s.map (·.2)).nodup h.2.1, fun p hp => h.2.2 p (s.subset hp)⟩
theorem zip_fst_sub : ∀ (l m : List Int), ((l.zip m).map (·.1)).Sublist l
  | [], m => by simp
  | x :: l, [] => by simp
  | x :: l, y :: m => by
    show (x :: (l.zip m).map (·.1)).Sublist (x :: l)
    exact (zip_fst_sub l m).cons₂ x
theorem zip_snd_sub : ∀ (l m : List Int), ((l.zip m).map (·.2)).Sublist m
  | [], m => by simp
  | x :: l, [] => by simp
  | x :: l, y :: m => by
    show (y :: (l.zip m).map (·.2)).Sublist (y :: m)
    exact (zip_snd_sub l m).cons₂ y
theorem oneToOne_zip {ns l m : List Int} (hl : l.Nodup) (hm : m.Nodup) (sl : ∀ x ∈ l, x ∈ ns) (sm : ∀ x ∈ m, x ∈ ns) : OneToOne ns (l.zip m) :=
  ⟨(zip_fst_sub l m).nodup hl, (zip_snd_sub l m).nodup hm, fun p hp => ⟨sl _ ((zip_fst_sub l m).subset (List.mem_map.mpr ⟨p, hp, rfl⟩)), sm _ ((zip_snd_sub l m).subset (List.mem_map.mpr ⟨p, hp, rfl⟩))⟩⟩
/-- no item twice, all of them in m -/
def Inj (l m : List Int) : Prop := l.Nodup ∧ ∀ x ∈ l, x ∈ m
theorem Inj.append {l1 l2 m1 m2 : List Int} (a : Inj l1 m1) (b : Inj l2 m2) (h : (m1 ++ m2).Nodup) : Inj (l1 ++ l2) (m1 ++ m2) := by
  refine ⟨List.nodup_append.mpr ⟨a.1, b.1, fun x hx y hy e => ?_⟩, fun x hx => ?_⟩
  · exact (List.nodup_append.mp h).2.2 x (a.2 x hx) y (b.2 y hy) e
  · rcases List.mem_append.mp hx with z | z
    · exact List.mem_append_left _ (a.2 x z)
    · exact List.mem_append_right _ (b.2 x z)
theorem ring_fst : ∀ (x : Int) (r : List Int), (((x :: r).zip r).map (·.1)) ++ [(x :: r).getLast (by simp)] = x :: r
  | x, [] => rfl
  | x, y :: r => by
    have ih := ring_fst y r
    show x :: ((((y :: r).zip r).map (·.1)) ++ [(x :: y :: r).getLast (by simp)]) = x :: y :: r
    rw [List.getLast_cons (by simp)]
    exact congrArg (x :: ·) ih
theorem ring_snd : ∀ (x : Int) (r : List Int), ((x :: r).zip r).map (·.2) = r
  | x, [] => rfl
  | x, y :: r => congrArg (y :: ·) (ring_snd y r)
/-- the links of one ring, open or closed -/
def ringOf (x : Int) (r : List Int) (closed : Bool) : List (Int × Int) := (x :: r).zip r ++ if closed = true then [((x :: r).getLast (by simp), x)] else []
theorem ring_inj {x : Int} {r : List Int} {closed : Bool} (h : (x :: r).Nodup) : Inj ((ringOf x r closed).map (·.1)) (x :: r) ∧ Inj ((ringOf x r closed).map (·.2)) (x :: r) := by
  unfold ringOf
  cases closed with
  | true =>
    rw [if_pos rfl, List.map_append, List.map_append]
    constructor
    · show Inj (((x :: r).zip r).map (·.1) ++ [(x :: r).getLast (by simp)]) (x :: r)
      rw [ring_fst]
      exact ⟨h, fun _ z => z⟩
    · show Inj (((x :: r).zip r).map (·.2) ++ [x]) (x :: r)
      rw [ring_snd]
      have pm : (r ++ [x]).Perm (x :: r) := List.perm_append_comm
      exact ⟨pm.nodup_iff.mpr h, fun y hy => pm.subset hy⟩
  | false =>
    rw [if_neg (by simp), List.append_nil]
    refine ⟨⟨(zip_fst_sub _ _).nodup h, fun y hy => (zip_fst_sub _ _).subset hy⟩, ?_⟩
    rw [ring_snd]
    exact ⟨(List.nodup_cons.mp h).2, fun y hy => List.mem_cons_of_mem _ hy⟩
theorem inj_oneToOne {ns ms : List Int} {ps : List (Int × Int)} (a : Inj (ps.map (·.1)) ms) (b : Inj (ps.map (·.2)) ms) (h : ∀ x ∈ ms, x ∈ ns) : OneToOne ns ps :=
  ⟨a.1, b.1, fun p hp => ⟨h _ (a.2 _ (List.mem_map.mpr ⟨p, hp, rfl⟩)), h _ (b.2 _ (List.mem_map.mpr ⟨p, hp, rfl⟩))⟩⟩
theorem zip_at {l m : List Int} {i : Nat} {a b : Int} (ha : l[i]? = some a) (hb : m[i]? = some b) : (l.zip m)[i]? = some (a, b) := by
  rw [List.getElem?_zip_eq_some]
  exact ⟨ha, hb⟩
theorem take_next {α : Type} {l : List α} {i : Nat} {x : α} (h : l[i]? = some x) : l.take (i + 1) = l.take i ++ [x] := by
  rw [List.take_add_one, h]
  rfl
theorem sub_skip {α : Type} {ps l : List α} {i : Nat} {x : α} (s : ps.Sublist (l.take i)) (h : l[i]? = some x) : ps.Sublist (l.take (i + 1)) := by
  rw [take_next h]
  exact s.trans (List.sublist_append_left _ _)
theorem sub_put {α : Type} {ps l : List α} {i : Nat} {x : α} (s : ps.Sublist (l.take i)) (h : l[i]? = some x) : (ps ++ [x]).Sublist (l.take (i + 1)) := by
  rw [take_next h]
  exact s.append (List.Sublist.refl _)
end DQ

set_option Elab.async false
set_option linter.all false
set_option maxRecDepth 100000
set_option maxHeartbeats 4000000
namespace DQ
open PySem PySem.Spec PyProof.Rows L2
abbrev sPairs : Stmt := topS 55
abbrev NP : List Str := ["generator", "items", "order", "way", "found", "other", "at", "width", "ring", "place"]
theorem scPairs : FnScope NP ["generator", "items"] (defScope sPairs) := ⟨rfl, rfl, rfl, by decide +kernel, rfl, by decide +kernel, by decide +kernel⟩
/-- the tuples that stand at a list's places -/
def Tups (H : Hp) (rs : List V) (ts : List (List V)) : Prop := Paired (fun (r : V) (t : List V) => ∃ a, r = .ref a ∧ H a = some (.tup t)) rs ts
def pairV (p : Int × Int) : List V := [.int p.1, .int p.2]
/-- tuples stay -/
def TupKeep (H H' : Hp) : Prop := ∀ a t, H a = some (.tup t) → H' a = some (.tup t)
theorem TupKeep.trans {H H1 H2 : Hp} (a : TupKeep H H1) (b : TupKeep H1 H2) : TupKeep H H2 := fun c t h => b c t (a c t h)
theorem tk_same {H H' : Hp} (s : Same H H') : TupKeep H H' := fun a t h => s a _ h
theorem tk_keep {g : Addr} {H H' : Hp} {n : Int} (k : Keep g H H') (G : Gen H g n) : TupKeep H H' := fun a t h => k a _ (fun e => by
  obtain ⟨x, y, z, eg, _⟩ := G
  rw [e, eg] at h
  cases h) h
theorem tk_lst {H : Hp} {D : Addr} {xs ys : List V} (h : H D = some (.lst xs)) : TupKeep H (upd H D (.lst ys)) := fun a t e => by
  rw [upd_ne (ne_of e h (by intro z; cases z))]
  exact e
theorem Tups.keep {H H' : Hp} (k : TupKeep H H') : ∀ {rs : List V} {ts : List (List V)}, Tups H rs ts → Tups H' rs ts
  | _, _, .nil => .nil
  | _, _, .cons ⟨a, e, h⟩ r => .cons ⟨a, e, k _ _ h⟩ (Tups.keep k r)
theorem Tups.put {H : Hp} {a : Addr} {t : List V} (e : H a = some (.tup t)) : ∀ {rs : List V} {ts : List (List V)}, Tups H rs ts → Tups H (rs ++ [.ref a]) (ts ++ [t])
  | _, _, .nil => .cons ⟨a, rfl, e⟩ .nil
  | _, _, .cons h r => .cons h (Tups.put e r)
theorem Tups.append {H : Hp} : ∀ {rs : List V} {ts : List (List V)} {rs' : List V} {ts' : List (List V)}, Tups H rs ts → Tups H rs' ts' → Tups H (rs ++ rs') (ts ++ ts')
  | _, _, _, _, .nil, s => s
  | _, _, _, _, .cons h r, s => .cons h (Tups.append r s)
theorem Keep.upd_new {g b : Addr} {H H' : Hp} {o : HO} (k : Keep g H H') (h : H b = none) : Keep g H (upd H' b o) := fun a x n e => by
  rw [upd_ne (ne_of_none e h)]
  exact k a x n e
theorem at_ints {ms : List Int} {i : Nat} {v : Int} (h : ms[i]? = some v) : atI (ms.map V.int) (0 + (i : Int)) = some (.int v) := by
  rw [Int.zero_add]
  refine atI_nat ?_
  rw [List.getElem?_map, h]
  rfl
theorem at_intsW {ms : List Int} {i w : Nat} {v x : Int} (hw : (w : Int) = x) (h : ms[i + w]? = some v) : atI (ms.map V.int) (0 + (i : Int) + x) = some (.int v) := by
  rw [Int.zero_add, ← hw, show (i : Int) + (w : Int) = ((i + w : Nat) : Int) by omega]
  refine atI_nat ?_
  rw [List.getElem?_map, h]
  rfl
theorem at_ints1 {ms : List Int} {i : Nat} {v : Int} (h : ms[i + 1]? = some v) : atI (ms.map V.int) (0 + (i : Int) + 1) = some (.int v) := at_intsW (w := 1) rfl h
theorem at_last {x : Int} {rr : List Int} : atI ((x :: rr).map V.int) (-1) = some (.int ((x :: rr).getLast (by simp))) := by
  have hl : ((x :: rr).map V.int).length = rr.length + 1 := by rw [List.length_map]; rfl
  have h1 : ixN (rr.length + 1) (-1) = some rr.length := by
    unfold ixN
    rw [if_neg (by decide), if_pos (by omega)]
    exact congrArg some (by omega)
  unfold atI
  rw [hl, h1]
  show ((x :: rr).map V.int)[rr.length]? = _
  rw [List.getElem?_map, List.getElem?_eq_getElem (show rr.length < (x :: rr).length from Nat.lt_succ_self _), List.getLast_eq_getElem]
  rfl
/-- where the walk over the order stands -/
def atOf (σ : L2.St) : Nat := match σ[6]? with
  | some (some (V.int k)) => k.toNat
  | _ => 0
/-- the next ring: at least one item -/
theorem cut_ring {ms : List Int} {k : Nat} {r : Int} (hk : k < ms.length) (h0 : 0 ≤ r) : ∃ x rr, cutV (ms.map V.int) (some (k : Int)) (some ((k : Int) + 1 + r)) = (x :: rr).map V.int ∧ k + (x :: rr).length ≤ ms.length ∧ ms.take k ++ (x :: rr) = ms.take (k + (x :: rr).length) := by
  have e1 : (k : Int) + 1 + r = ((k + 1 + r.toNat : Nat) : Int) := by omega
  have e2 : cutV (ms.map V.int) (some (k : Int)) (some ((k : Int) + 1 + r)) = ((ms.drop k).take (min (k + 1 + r.toNat) ms.length - k)).map V.int := by
    unfold cutV
    rw [e1, show HT.sIx (ms.map V.int).length 0 (some (k : Int)) = min k (ms.map V.int).length from HT.sIx_nat _ 0 k, show HT.sIx (ms.map V.int).length (ms.map V.int).length (some ((k + 1 + r.toNat : Nat) : Int)) = min (k + 1 + r.toNat) (ms.map V.int).length from HT.sIx_nat _ _ _, List.length_map, Nat.min_eq_left (Nat.le_of_lt hk), ← List.map_drop, ← List.map_take]
  rw [e2]
  cases q : (ms.drop k).take (min (k + 1 + r.toNat) ms.length - k) with
  | nil =>
    have z := congrArg List.length q
    rw [List.length_take, List.length_drop, List.length_nil] at z
    omega
  | cons x rr =>
    have z := congrArg List.length q
    rw [List.length_take, List.length_drop] at z
    have z2 : (x :: rr).length = min (k + 1 + r.toNat) ms.length - k := by omega
    refine ⟨x, rr, rfl, by omega, ?_⟩
    rw [List.take_add, z2, q]
section
variable {P : Program} {w : World} {K : PySem.W.Frag} {mg : Str → Option Value} {base : Heap}
def spPairs (K : PySem.W.Frag) : Sp := fun vs H Q _ => ∃ (g t : Addr) (ns : List Int) (n : Int), vs = [.ref g, .ref t] ∧ SqL K H t (ns.map V.int) ∧ t ≠ g ∧ ns.Nodup ∧ Gen H g n ∧ ns.length ≤ 100 ∧ n + 20 * ns.length + 100 ≤ 1073741824 ∧
  ∀ (p : Addr) (rs : List V) (ps : List (Int × Int)) (H' : Hp), OneToOne ns ps → Keep g H H' → H p = none → H' p = some (.lst rs) → Tups H' rs (ps.map pairV) → Gen H' g (n + 20 * ns.length + 100) → Q (.ref p) H'
theorem ok_pairs {f fo fr : Addr} {fd fdo fdr : FuncData} (F : Fun K "_law_drawn_pairs" "_law_drawn_pairs" sPairs f fd)
    (GO : FnOk P w K mg base CX0 3 fo fdo ["generator", "things"] (spOrder K)) (bO : Binds K fdo ["generator", "things"] []) (kO : PySem.W.keepIn K (.ref fo) = true) (mO : mg "_law_drawn_order" = some (.ref fo))
    (GR : FnOk P w K mg base CX0 2 fr fdr ["generator", "bound"] spRandom) (bR : Binds K fdr ["generator", "bound"] []) (kR : PySem.W.keepIn K (.ref fr) = true) (mR : mg "_law_random" = some (.ref fr))
    (mLen : mg "len" = none) (mRange : mg "range" = none) : FnOk P w K mg base CX0 4 f fd ["generator", "items"] (spPairs K) := by
  refine F.ok scPairs (fun vs H Q E h => ?_) (fun cdv A outer s H vs Q E hr h => ?_)
  · obtain ⟨g, t, ns, n, rfl, _⟩ := h
    rfl
  obtain ⟨g, t, ns, n, rfl, L, ntg, nod, gen, h100, hn, q⟩ := h
  have nd := scPairs.nd
  refine ⟨_, (pss_cons (ps_asg (pe_tup (pa_cons (pe_call GO (hr.mono (by decide)) rfl mO kO bO .nil pass0 (pa_cons (pv 0) (pa_cons (pv 1) pa_nil))) (pa_cons (pe_call GR (hr.mono (by decide)) rfl mR kR bR .nil pass0 (pa_cons (pv 0) (pa_cons pe_int pa_nil))) (pa_cons (pe_lst pa_nil) pa_nil)))) (pg_tup rfl (pgs_cons (pg_name (i := 2) nd rfl (.inr rfl)) (pgs_cons (pg_name (i := 3) nd rfl (.inl rfl)) (pgs_cons (pg_name (i := 4) nd rfl (.inl rfl)) pgs_nil)))))
    (pss_cons (ps_if (pt_cmpR op_eq (pv 3) pe_int (nomark _)) (pss_cons (ps_set (i := 5) nd rfl (.inr rfl) (pe_call GO (hr.mono (by decide)) rfl mO kO bO .nil pass0 (pa_cons (pv 0) (pa_cons (pv 1) pa_nil)))) (pss_one (ps_ret (pe_lc (own := [("at", 6)]) (g := gName 6) rfl nd (pi_range1 (by rfl) mRange (pa_cons (pe_callB call_len_seq (by rfl) mLen PySem.boot_len (pa_cons (pv 2) pa_nil)) pa_nil)) (blkOk_by (own := [("at", 6)]) (N := NP) (sc := defScope sPairs) (by decide +kernel)) (fun _ _ _ _ _ => pg_name (i := 6) nd rfl (Or.inl rfl)) (fun _ _ _ _ _ => pts_one (pt_cmpR op_gt (pe_call GR (hr.mono (by decide)) rfl mR kR bR .nil pass0 (pa_cons (pv 0) (pa_cons pe_int pa_nil))) pe_int (nomark _))) (fun _ _ _ _ _ => (pe_tup (pa_cons (pe_ix (r := rIxL K) ix_list (pv 2) (pv 6) (fun _ _ => rfl)) (pa_cons (pe_ix (r := rIxL K) ix_list (pv 5) (pv 6) (fun _ _ => rfl)) pa_nil)))))))) pss_nil)
    (pss_cons (ps_if (pt_cmpR op_eq (pv 3) pe_int (nomark _)) (pss_one (ps_ret (pe_lc (own := [("at", 6)]) (g := gName 6) rfl nd (pi_range1 (by rfl) mRange (pa_cons (pe_op op_sub (pe_callB call_len_seq (by rfl) mLen PySem.boot_len (pa_cons (pv 2) pa_nil)) pe_int) pa_nil)) (blkOk_by (own := [("at", 6)]) (N := NP) (sc := defScope sPairs) (by decide +kernel)) (fun _ _ _ _ _ => pg_name (i := 6) nd rfl (Or.inl rfl)) (fun _ _ _ _ _ => pts_one (pt_cmpR op_gt (pe_call GR (hr.mono (by decide)) rfl mR kR bR .nil pass0 (pa_cons (pv 0) (pa_cons pe_int pa_nil))) pe_int (nomark _))) (fun _ _ _ _ _ => (pe_tup (pa_cons (pe_ix (r := rIxL K) ix_list (pv 2) (pv 6) (fun _ _ => rfl)) (pa_cons (pe_ix (r := rIxL K) ix_list (pv 2) (pe_op op_add (pv 6) pe_int) (fun _ _ => rfl)) pa_nil))))))) pss_nil)
    (pss_cons (ps_if (pt_cmpR op_eq (pv 3) pe_int (nomark _)) (pss_cons (ps_set (i := 7) nd rfl (.inr rfl) (pe_op op_add pe_int (pe_call GR (hr.mono (by decide)) rfl mR kR bR .nil pass0 (pa_cons (pv 0) (pa_cons pe_int pa_nil))))) (pss_one (ps_ret (pe_lc (own := [("at", 6)]) (g := gName 6) (tt := tYes) rfl nd (pi_range1 (by rfl) mRange (pa_cons (pe_op op_sub (pe_callB call_len_seq (by rfl) mLen PySem.boot_len (pa_cons (pv 1) pa_nil)) (pv 7)) pa_nil)) (blkOk_by (own := [("at", 6)]) (N := NP) (sc := defScope sPairs) (by decide +kernel)) (fun _ _ _ _ _ => pg_name (i := 6) nd rfl (Or.inl rfl)) (fun _ _ _ _ _ => pts_nil) (fun _ _ _ _ _ => (pe_tup (pa_cons (pe_ix (r := rIxL K) ix_list (pv 1) (pv 6) (fun _ _ => rfl)) (pa_cons (pe_ix (r := rIxL K) ix_list (pv 1) (pe_op op_add (pv 6) (pv 7)) (fun _ _ => rfl)) pa_nil)))))))) pss_nil)
    (pss_cons (ps_set (i := 6) nd rfl (.inl rfl) pe_int)
    (pss_cons (ps_while PassesOwn.never (pt_cmpR op_lt (pv 6) (pe_callB call_len_seq (by rfl) mLen PySem.boot_len (pa_cons (pv 2) pa_nil)) (nomark _)) (pss_cons (ps_set (i := 8) nd rfl (.inr rfl) (pe_slice sl_list (pv 2) (po_some (pv 6)) (po_some (pe_op op_add (pe_op op_add (pv 6) pe_int) (pe_call GR (hr.mono (by decide)) rfl mR kR bR .nil pass0 (pa_cons (pv 0) (pa_cons pe_int pa_nil)))))))
      (pss_cons (ps_set (i := 4) nd rfl (.inl rfl) (pe_op op_cat (pv 4) (pe_lc (own := [("place", 9)]) (g := gName 9) (tt := tYes) rfl nd (pi_range1 (by rfl) mRange (pa_cons (pe_op op_sub (pe_callB call_len_seq (by rfl) mLen PySem.boot_len (pa_cons (pv 8) pa_nil)) pe_int) pa_nil)) (blkOk_by (own := [("place", 9)]) (N := NP) (sc := defScope sPairs) (by decide +kernel)) (fun _ _ _ _ _ => pg_name (i := 9) nd rfl (Or.inl rfl)) (fun _ _ _ _ _ => pts_nil) (fun _ _ _ _ _ => (pe_tup (pa_cons (pe_ix (r := rIxL K) ix_list (pv 8) (pv 9) (fun _ _ => rfl)) (pa_cons (pe_ix (r := rIxL K) ix_list (pv 8) (pe_op op_add (pv 9) pe_int) (fun _ _ => rfl)) pa_nil)))))))
      (pss_cons (ps_if (PW.pt (pw_or (pt_cmpR op_eq (pv 3) pe_int (nomark _)) (pw_or1 (pt_cmpR op_eq (pe_call GR (hr.mono (by decide)) rfl mR kR bR .nil pass0 (pa_cons (pv 0) (pa_cons pe_int pa_nil))) pe_int (nomark _))))) (pss_one (ps_expr (pe_bm PySem.F.plainAttrs_list PySem.F.slot_list_append PySem.F.type_list_append mt_append (pv 4) (pa_cons (pe_tup (pa_cons (pe_ix (r := rIxL K) ix_list (pv 8) (pe_un un_neg pe_int) (fun _ _ => rfl)) (pa_cons (pe_ix (r := rIxL K) ix_list (pv 8) pe_int (fun _ _ => rfl)) pa_nil))) pa_nil)))) pss_nil)
      (pss_one (ps_set (i := 6) nd rfl (.inl rfl) (pe_op op_add (pv 6) (pe_callB call_len_seq (by rfl) mLen PySem.boot_len (pa_cons (pv 8) pa_nil)))))))))
    (pss_one (ps_ret (pv 4))))))))), ?_⟩
  refine ⟨_, rfl, _, rfl, g, t, ns, n, rfl, L, ntg, gen, h100, by omega, fun p0 ms H1 pm k1 n0 e0 gen1 => ?_⟩
  refine ⟨_, rfl, g, 5, _, rfl, gen1, by decide, by decide, by omega, fun way H2 w0 w1 gen2 b2 => ?_⟩
  refine ⟨Nat.zero_le _, fun p1 n1 => ⟨by show 3 ≤ sizeLine; decide, fun p2 n2 => ?_⟩⟩
  have m1 := same_new n1 (o := .lst [])
  have e1 : upd H2 p1 (.lst []) p1 = some (.lst []) := upd_same
  generalize upd H2 p1 (.lst []) = H3 at m1 e1 n2 ⊢
  have m2 := same_new n2 (o := .tup [.ref p0, .int way, .ref p1])
  have e2 : upd H3 p2 (.tup [.ref p0, .int way, .ref p1]) p2 = some (.tup [.ref p0, .int way, .ref p1]) := upd_same
  generalize upd H3 p2 (.tup [.ref p0, .int way, .ref p1]) = H4 at m2 e2 ⊢
  refine ⟨p2, [.ref p0, .int way, .ref p1], rfl, .inl (.inl e2), rfl, _, _, rfl, _, _, rfl, _, _, rfl, rfl, ?_⟩
  have np0g : p0 ≠ g := gen.ne n0
  have k4 : Keep g H H4 := (k1.trans (Keep.of_but b2)).trans (Keep.of_same (m1.trans m2))
  have gen4 := (gen2.same m1).same m2
  have o4 : H4 p0 = some (.lst (ms.map V.int)) := m2 _ _ (m1 _ _ ((b2 p0 np0g).trans e0))
  have f4 := m2 _ _ e1
  have L4 : SqL K H4 t (ns.map V.int) := k4.seq ntg L
  have nodm : ms.Nodup := pm.nodup_iff.mpr nod
  have subm : ∀ x ∈ ms, x ∈ ns := fun x hx => pm.subset hx
  have lenm : ms.length = ns.length := pm.length_eq
  have p1free : H p1 = none := by
    refine Keep.free (k1.trans (Keep.of_but b2)) gen.at n1 gen2.at
  -- way == 0
  refine ⟨_, rfl, rfl, _, rfl, ite2 (fun c => ?_) fun c => ?_⟩
  · refine ⟨_, rfl, _, rfl, g, t, ns, _, rfl, L4, ntg, gen4, h100, by omega, fun p5 os H5 pm5 k5 n5 e5 gen5 => ?_⟩
    have o5 : H5 p0 = some (.lst (ms.map V.int)) := k5 _ _ np0g o4
    have np5g : p5 ≠ g := gen4.ne n5
    have leno : os.length = ns.length := pm5.length_eq
    have hm : (((ms.map V.int).length : Nat) : Int).toNat = ms.length := by rw [List.length_map]; omega
    refine ⟨_, rfl, p0, _, rfl, .inl (SqL.of o5), _, rfl, by rw [List.length_map]; omega, by rw [List.length_map]; omega, fun D nD => lc_range (lo := 0) (n := (((ms.map V.int).length : Nat) : Int).toNat) (fun k H' => ∃ (ps : List (Int × Int)) (rs : List V), H' D = some (.lst rs) ∧ rs.length ≤ k ∧ Tups H' rs (ps.map pairV) ∧ ps.Sublist ((ms.zip os).take k) ∧ Keep g H5 H' ∧ Gen H' g (n + 3 * ns.length + 3 + 3 * ns.length + 3 * k))
      ⟨[], [], upd_same, Nat.le_refl _, .nil, List.nil_sublist _, Keep.of_same (same_new nD), (gen5.same (same_new nD)).mono (by omega)⟩ (fun k H' hk hP => ?_) fun H' hP => ?_⟩
    · obtain ⟨ps, rs, eD, hl, tp, sb, kp, gn⟩ := hP
      rw [hm] at hk
      have nDg : D ≠ g := gen5.ne nD
      have ga : ms[k]? = some ms[k] := List.getElem?_eq_getElem hk
      have gb : os[k]? = some (os[k]'(by omega)) := List.getElem?_eq_getElem (by omega)
      have gz := zip_at ga gb
      refine ⟨rfl, _, rfl, g, 3, _, rfl, gn, by decide, by decide, by omega, fun r H6 r0 r1 gn6 bt => ⟨_, _, rfl, rfl, _, rfl, ite2 (fun c2 => ?_) fun c2 => ?_⟩⟩
      · have kp6 : Keep g H5 H6 := kp.trans (Keep.of_but bt)
        have eD6 : H6 D = some (.lst rs) := (bt D nDg).trans eD
        refine ⟨_, rfl, _, rfl, p0, _, _, _, rfl, rfl, SqL.of (kp6 _ _ np0g o5), at_ints ga, _, rfl, _, rfl, p5, _, _, _, rfl, rfl, SqL.of (kp6 _ _ np5g e5), at_ints gb, by show 2 ≤ sizeLine; decide, fun T nT => ?_⟩
        have mT := same_new nT (o := .tup [.int ms[k], .int (os[k]'(by omega))])
        have eT : upd H6 T (.tup [.int ms[k], .int (os[k]'(by omega))]) T = some (.tup [.int ms[k], .int (os[k]'(by omega))]) := upd_same
        generalize upd H6 T (.tup [.int ms[k], .int (os[k]'(by omega))]) = H7 at mT eT ⊢
        have eD7 := mT _ _ eD6
        refine ⟨rs, eD7, small1000 (by omega), ps ++ [(ms[k], os[k]'(by omega))], rs ++ [.ref T], upd_same, ?_, ?_, sub_put sb gz, ?_, ?_⟩
        · rw [List.length_append, List.length_singleton]
          omega
        · rw [List.map_append]
          exact (Tups.put eT ((tp.keep (tk_keep (Keep.of_but bt) gn)).keep (tk_same mT))).keep (tk_lst eD7)
        · exact (kp6.trans (Keep.of_same mT)).upd_new nD
        · exact ((gn6.same mT).upd nDg.symm).mono (by omega)
      · exact ⟨ps, rs, (bt D nDg).trans eD, by omega, tp.keep (tk_keep (Keep.of_but bt) gn), sub_skip sb gz, kp.trans (Keep.of_but bt), gn6.mono (by omega)⟩
    · obtain ⟨ps, rs, eD, hl, tp, sb, kp, gn⟩ := hP
      rw [hm] at sb gn
      have nD4 : H4 D = none := Keep.free k5 gen4.at nD gen5.at
      have nD0 : H D = none := Keep.free k4 gen.at nD4 gen4.at
      exact q D rs ps H' ((oneToOne_zip nodm (pm5.nodup_iff.mpr nod) subm (fun x hx => pm5.subset hx)).sub (sb.trans (List.take_sublist _ _))) ((k4.trans k5).trans kp) nD0 eD tp (gn.mono (by omega))
  -- way == 1
  refine ⟨_, rfl, rfl, _, rfl, ite2 (fun c => ?_) fun c => ?_⟩
  · have hm : ((((ms.map V.int).length : Nat) : Int) - 1).toNat = ms.length - 1 := by rw [List.length_map]; omega
    refine ⟨_, rfl, p0, _, rfl, .inl (SqL.of o4), _, _, rfl, rfl, _, rfl, by rw [List.length_map]; omega, by rw [List.length_map]; omega, fun D nD => lc_range (lo := 0) (n := ((((ms.map V.int).length : Nat) : Int) - 1).toNat) (fun k H' => ∃ (ps : List (Int × Int)) (rs : List V), H' D = some (.lst rs) ∧ rs.length ≤ k ∧ Tups H' rs (ps.map pairV) ∧ ps.Sublist ((ms.zip (ms.drop 1)).take k) ∧ Keep g H4 H' ∧ Gen H' g (n + 3 * ns.length + 3 + 3 * k))
      ⟨[], [], upd_same, Nat.le_refl _, .nil, List.nil_sublist _, Keep.of_same (same_new nD), (gen4.same (same_new nD)).mono (by omega)⟩ (fun k H' hk hP => ?_) fun H' hP => ?_⟩
    · obtain ⟨ps, rs, eD, hl, tp, sb, kp, gn⟩ := hP
      rw [hm] at hk
      have nDg : D ≠ g := gen4.ne nD
      have ga : ms[k]? = some (ms[k]'(by omega)) := List.getElem?_eq_getElem (by omega)
      have gb : ms[k + 1]? = some (ms[k + 1]'(by omega)) := List.getElem?_eq_getElem (by omega)
      have gb' : (ms.drop 1)[k]? = some (ms[k + 1]'(by omega)) := by rw [List.getElem?_drop, Nat.add_comm]; exact gb
      have gz := zip_at ga gb'
      refine ⟨rfl, _, rfl, g, 6, _, rfl, gn, by decide, by decide, by omega, fun r H6 r0 r1 gn6 bt => ⟨_, _, rfl, rfl, _, rfl, ite2 (fun c2 => ?_) fun c2 => ?_⟩⟩
      · have kp6 : Keep g H4 H6 := kp.trans (Keep.of_but bt)
        have eD6 : H6 D = some (.lst rs) := (bt D nDg).trans eD
        refine ⟨_, rfl, _, rfl, p0, _, _, _, rfl, rfl, SqL.of (kp6 _ _ np0g o4), at_ints ga, _, rfl, _, rfl, _, _, rfl, rfl, p0, _, _, _, rfl, rfl, SqL.of (kp6 _ _ np0g o4), at_ints1 gb, by show 2 ≤ sizeLine; decide, fun T nT => ?_⟩
        have mT := same_new nT (o := .tup [.int (ms[k]'(by omega)), .int (ms[k + 1]'(by omega))])
        have eT : upd H6 T (.tup [.int (ms[k]'(by omega)), .int (ms[k + 1]'(by omega))]) T = some (.tup [.int (ms[k]'(by omega)), .int (ms[k + 1]'(by omega))]) := upd_same
        generalize upd H6 T (.tup [.int (ms[k]'(by omega)), .int (ms[k + 1]'(by omega))]) = H7 at mT eT ⊢
        have eD7 := mT _ _ eD6
        refine ⟨rs, eD7, small1000 (by omega), ps ++ [(ms[k]'(by omega), ms[k + 1]'(by omega))], rs ++ [.ref T], upd_same, ?_, ?_, sub_put sb gz, ?_, ?_⟩
        · rw [List.length_append, List.length_singleton]
          omega
        · rw [List.map_append]
          exact (Tups.put eT ((tp.keep (tk_keep (Keep.of_but bt) gn)).keep (tk_same mT))).keep (tk_lst eD7)
        · exact (kp6.trans (Keep.of_same mT)).upd_new nD
        · exact ((gn6.same mT).upd nDg.symm).mono (by omega)
      · exact ⟨ps, rs, (bt D nDg).trans eD, by omega, tp.keep (tk_keep (Keep.of_but bt) gn), sub_skip sb gz, kp.trans (Keep.of_but bt), gn6.mono (by omega)⟩
    · obtain ⟨ps, rs, eD, hl, tp, sb, kp, gn⟩ := hP
      rw [hm] at sb gn
      have nD0 : H D = none := Keep.free k4 gen.at nD gen4.at
      exact q D rs ps H' ((oneToOne_zip nodm ((List.drop_sublist 1 ms).nodup nodm) subm (fun x hx => subm x ((List.drop_sublist 1 ms).subset hx))).sub (sb.trans (List.take_sublist _ _))) (k4.trans kp) nD0 eD tp (gn.mono (by omega))
  -- way == 2
  refine ⟨_, rfl, rfl, _, rfl, ite2 (fun c => ?_) fun c => ?_⟩
  · refine ⟨_, rfl, g, 4, _, rfl, gen4, by decide, by decide, by omega, fun r H5 r0 r1 gen5 b5 => ⟨_, _, rfl, rfl, ?_⟩⟩
    have k5 : Keep g H4 H5 := Keep.of_but b5
    have L5 : SqL K H5 t (ns.map V.int) := k5.seq ntg L4
    have hm : ((((ns.map V.int).length : Nat) : Int) - (1 + r)).toNat = ns.length - (1 + r).toNat := by rw [List.length_map]; omega
    refine ⟨_, rfl, t, _, rfl, .inl L5, _, rfl, _, _, rfl, rfl, _, rfl, by rw [List.length_map]; omega, by rw [List.length_map]; omega, fun D nD => lc_range (lo := 0) (n := ((((ns.map V.int).length : Nat) : Int) - (1 + r)).toNat) (fun k H' => ∃ (ps : List (Int × Int)) (rs : List V), H' D = some (.lst rs) ∧ rs.length ≤ k ∧ Tups H' rs (ps.map pairV) ∧ ps.Sublist ((ns.zip (ns.drop (1 + r).toNat)).take k) ∧ Keep g H5 H' ∧ Gen H' g (n + 3 * ns.length + 6))
      ⟨[], [], upd_same, Nat.le_refl _, .nil, List.nil_sublist _, Keep.of_same (same_new nD), (gen5.same (same_new nD)).mono (by omega)⟩ (fun k H' hk hP => ?_) fun H' hP => ?_⟩
    · obtain ⟨ps, rs, eD, hl, tp, sb, kp, gn⟩ := hP
      rw [hm] at hk
      have nDg : D ≠ g := gen5.ne nD
      have hw : (((1 + r).toNat : Nat) : Int) = 1 + r := by omega
      have ga : ns[k]? = some (ns[k]'(by omega)) := List.getElem?_eq_getElem (by omega)
      have gb : ns[k + (1 + r).toNat]? = some (ns[k + (1 + r).toNat]'(by omega)) := List.getElem?_eq_getElem (by omega)
      have gb' : (ns.drop (1 + r).toNat)[k]? = some (ns[k + (1 + r).toNat]'(by omega)) := by rw [List.getElem?_drop, Nat.add_comm]; exact gb
      have gz := zip_at ga gb'
      refine ⟨rfl, _, rfl, _, rfl, t, _, _, _, rfl, rfl, kp.seq ntg L5, at_ints ga, _, rfl, _, rfl, _, rfl, _, _, rfl, rfl, t, _, _, _, rfl, rfl, kp.seq ntg L5, at_intsW hw gb, by show 2 ≤ sizeLine; decide, fun T nT => ?_⟩
      have mT := same_new nT (o := .tup [.int (ns[k]'(by omega)), .int (ns[k + (1 + r).toNat]'(by omega))])
      have eT : upd H' T (.tup [.int (ns[k]'(by omega)), .int (ns[k + (1 + r).toNat]'(by omega))]) T = some (.tup [.int (ns[k]'(by omega)), .int (ns[k + (1 + r).toNat]'(by omega))]) := upd_same
      generalize upd H' T (.tup [.int (ns[k]'(by omega)), .int (ns[k + (1 + r).toNat]'(by omega))]) = H7 at mT eT ⊢
      have eD7 := mT _ _ eD
      refine ⟨rs, eD7, small1000 (by omega), ps ++ [(ns[k]'(by omega), ns[k + (1 + r).toNat]'(by omega))], rs ++ [.ref T], upd_same, ?_, ?_, sub_put sb gz, ?_, ?_⟩
      · rw [List.length_append, List.length_singleton]
        omega
      · rw [List.map_append]
        exact (Tups.put eT (tp.keep (tk_same mT))).keep (tk_lst eD7)
      · exact (kp.trans (Keep.of_same mT)).upd_new nD
      · exact (gn.same mT).upd nDg.symm
    · obtain ⟨ps, rs, eD, hl, tp, sb, kp, gn⟩ := hP
      have nD4 : H4 D = none := Keep.free k5 gen4.at nD gen5.at
      have nD0 : H D = none := Keep.free k4 gen.at nD4 gen4.at
      exact q D rs ps H' ((oneToOne_zip nod ((List.drop_sublist _ ns).nodup nod) (fun _ z => z) (fun x hx => (List.drop_sublist _ ns).subset hx)).sub (sb.trans (List.take_sublist _ _))) ((k4.trans k5).trans kp) nD0 eD tp (gn.mono (by omega))
  -- at = 0
  refine while_by (fun σ H' => ∃ (k : Nat) (pf : Addr) (ps : List (Int × Int)) (rs : List V) (y : Option V), σ = [some (.ref g), some (.ref t), some (.ref p0), some (.int way), some (.ref pf), none, some (.int k), none, y, none] ∧ k ≤ ms.length ∧ H pf = none ∧ H' pf = some (.lst rs) ∧ rs.length ≤ 2 * k ∧ Tups H' rs (ps.map pairV) ∧ Inj (ps.map (·.1)) (ms.take k) ∧ Inj (ps.map (·.2)) (ms.take k) ∧ Keep g H4 H' ∧ Gen H' g (n + 3 * ns.length + 3 + 6 * k)) (fun σ _ => ms.length - atOf σ)
    ⟨0, p1, [], [], none, rfl, Nat.zero_le _, p1free, f4, Nat.le_refl _, .nil, ⟨List.nodup_nil, fun _ h => by cases h⟩, ⟨List.nodup_nil, fun _ h => by cases h⟩, Keep.refl g H4, gen4.mono (by omega)⟩ (fun σ H' hP => ?_) fun σ H' Q Q' h hc => ?_
  · obtain ⟨k, pf, ps, rs, y, rfl, hk, npf, ef, hl, tp, j1, j2, kp, gn⟩ := hP
    have o5 : H' p0 = some (.lst (ms.map V.int)) := kp _ _ np0g o4
    refine ⟨_, rfl, _, rfl, p0, _, rfl, .inl (SqL.of o5), _, _, rfl, rfl, _, rfl, ite2 (fun c => ?_) fun c => ?_⟩
    · have hk' : k < ms.length := by
        have z := of_decide_eq_true c
        rw [List.length_map] at z
        omega
      refine ⟨_, rfl, _, rfl, _, rfl, _, rfl, _, _, rfl, rfl, _, rfl, g, 5, _, rfl, gn, by decide, by decide, by omega, fun r H6 r0 r1 gn6 b6 => ⟨_, _, rfl, rfl, _, rfl, p0, _, rfl, SqL.of ((b6 p0 np0g).trans o5), fun pr nr => ?_⟩⟩
      obtain ⟨x, rr, er, hr2, htk⟩ := cut_ring (r := r) hk' r0
      have k6 : Keep g H4 H6 := kp.trans (Keep.of_but b6)
      rw [er]
      have npr0 : pr ≠ g := gn6.ne nr
      have mr := same_new nr (o := .lst ((x :: rr).map V.int))
      have er7 : upd H6 pr (.lst ((x :: rr).map V.int)) pr = some (.lst ((x :: rr).map V.int)) := upd_same
      generalize upd H6 pr (.lst ((x :: rr).map V.int)) = H7 at mr er7 ⊢
      have k7 : Keep g H4 H7 := k6.trans (Keep.of_same mr)
      have gn7 := gn6.same mr
      have pfg : pf ≠ g := gen.ne npf
      have ef7 : H7 pf = some (.lst rs) := mr _ _ ((b6 pf pfg).trans ef)
      have tp7 := (tp.keep (tk_keep (Keep.of_but b6) gn)).keep (tk_same mr)
      have hlr : (x :: rr).length = rr.length + 1 := rfl
      have hm : (((((x :: rr).map V.int).length : Nat) : Int) - 1).toNat = rr.length := by rw [List.length_map]; omega
      -- found = found + [..]
      refine ⟨_, rfl, _, rfl, pr, _, rfl, .inl (SqL.of er7), _, _, rfl, rfl, _, rfl, by rw [List.length_map]; omega, by rw [List.length_map]; omega, fun D nD => lc_range (lo := 0) (n := (((((x :: rr).map V.int).length : Nat) : Int) - 1).toNat) (fun j H' => ∃ (rs' : List V), H' D = some (.lst rs') ∧ rs'.length ≤ j ∧ Tups H' rs' ((((x :: rr).zip rr).take j).map pairV) ∧ Keep g H7 H' ∧ Gen H' g (n + 3 * ns.length + 3 + 6 * k + 3))
        ⟨[], upd_same, Nat.le_refl _, .nil, Keep.of_same (same_new nD), gn7.same (same_new nD)⟩ (fun j H' hj hP => ?_) fun H8 hP => ?_⟩
      · obtain ⟨rs', eD, hl', tp', kp', gn'⟩ := hP
        rw [hm] at hj
        have nDg : D ≠ g := gn7.ne nD
        have ga : (x :: rr)[j]? = some ((x :: rr)[j]'(by omega)) := List.getElem?_eq_getElem (by omega)
        have gb : (x :: rr)[j + 1]? = some (rr[j]'hj) := by rw [List.getElem?_cons_succ]; exact List.getElem?_eq_getElem hj
        have gz := zip_at ga (List.getElem?_eq_getElem hj)
        refine ⟨rfl, _, rfl, _, rfl, pr, _, _, _, rfl, rfl, SqL.of (kp' _ _ npr0 er7), at_ints ga, _, rfl, _, rfl, _, _, rfl, rfl, pr, _, _, _, rfl, rfl, SqL.of (kp' _ _ npr0 er7), at_ints1 gb, by show 2 ≤ sizeLine; decide, fun T nT => ?_⟩
        have mT := same_new nT (o := .tup [.int ((x :: rr)[j]'(by omega)), .int (rr[j]'hj)])
        have eT : upd H' T (.tup [.int ((x :: rr)[j]'(by omega)), .int (rr[j]'hj)]) T = some (.tup [.int ((x :: rr)[j]'(by omega)), .int (rr[j]'hj)]) := upd_same
        generalize upd H' T (.tup [.int ((x :: rr)[j]'(by omega)), .int (rr[j]'hj)]) = H9 at mT eT ⊢
        have eD9 := mT _ _ eD
        refine ⟨rs', eD9, small1000 (by omega), rs' ++ [.ref T], upd_same, ?_, ?_, (kp'.trans (Keep.of_same mT)).upd_new nD, (gn'.same mT).upd nDg.symm⟩
        · rw [List.length_append, List.length_singleton]
          omega
        · rw [take_next gz, List.map_append]
          exact (Tups.put eT (tp'.keep (tk_same mT))).keep (tk_lst eD9)
      obtain ⟨rs', eD, hl', tp', kp', gn'⟩ := hP
      rw [hm] at hl' tp'
      rw [List.take_of_length_le (by rw [List.length_zip]; omega)] at tp'
      have npD : pf ≠ D := ne_of_none ef7 nD
      have ef8 := kp' _ _ pfg ef7
      refine ⟨pf, D, _, _, rfl, rfl, ef8, eD, Nat.le_trans (show rs.length + rs'.length ≤ 1000 by omega) (by decide), fun p7 n7 => ?_⟩
      have m7 := same_new n7 (o := .lst (rs ++ rs'))
      have e7 : upd H8 p7 (.lst (rs ++ rs')) p7 = some (.lst (rs ++ rs')) := upd_same
      generalize upd H8 p7 (.lst (rs ++ rs')) = H9 at m7 e7 ⊢
      have k9 : Keep g H4 H9 := (k7.trans kp').trans (Keep.of_same m7)
      have gn9 := gn'.same m7
      have tp9 : Tups H9 (rs ++ rs') ((ps ++ (x :: rr).zip rr).map pairV) := by
        rw [List.map_append]
        exact (Tups.append (tp7.keep (tk_keep kp' gn7)) tp').keep (tk_same m7)
      have er9 : H9 pr = some (.lst ((x :: rr).map V.int)) := m7 _ _ (kp' _ _ npr0 er7)
      have n74 : H4 p7 = none := Keep.free (k7.trans kp') gen4.at n7 gn'.at
      have n70 : H p7 = none := Keep.free k4 gen.at n74 gen4.at
      have n7g : p7 ≠ g := gen.ne n70
      have nodx : (ms.take k ++ (x :: rr)).Nodup := by
        rw [htk]
        exact (List.take_sublist _ _).nodup nodm
      have nodr : (x :: rr).Nodup := (List.nodup_append.mp nodx).2.1
      -- the turn's end
      have fin : ∀ (cl : Bool) (rs8 : List V) (H8 : Hp), H8 p7 = some (.lst rs8) → rs8.length ≤ 2 * (k + (x :: rr).length) → Tups H8 rs8 ((ps ++ ringOf x rr cl).map pairV) → Keep g H4 H8 → Gen H8 g (n + 3 * ns.length + 3 + 6 * k + 6) →
          ∃ (k' : Nat) (pf : Addr) (ps : List (Int × Int)) (rs : List V) (y : Option V), [some (V.ref g), some (.ref t), some (.ref p0), some (.int way), some (.ref p7), none, some (.int ((k : Int) + (((x :: rr).map V.int).length : Nat))), none, some (.ref pr), none] = [some (.ref g), some (.ref t), some (.ref p0), some (.int way), some (.ref pf), none, some (.int k'), none, y, none] ∧ k' ≤ ms.length ∧ H pf = none ∧ H8 pf = some (.lst rs) ∧ rs.length ≤ 2 * k' ∧ Tups H8 rs (ps.map pairV) ∧ Inj (ps.map (·.1)) (ms.take k') ∧ Inj (ps.map (·.2)) (ms.take k') ∧ Keep g H4 H8 ∧ Gen H8 g (n + 3 * ns.length + 3 + 6 * k') := by
        intro cl rs8 H8 e8 l8 t8 kk8 g8
        have ri := ring_inj (closed := cl) nodr
        refine ⟨k + (x :: rr).length, p7, ps ++ ringOf x rr cl, rs8, some (.ref pr), by rw [List.length_map]; rfl, hr2, n70, e8, l8, t8, ?_, ?_, kk8, g8.mono (by omega)⟩
        · rw [List.map_append, ← htk]
          exact j1.append ri.1 nodx
        · rw [List.map_append, ← htk]
          exact j2.append ri.2 nodx
      have less : ms.length - atOf [some (V.ref g), some (.ref t), some (.ref p0), some (.int way), some (.ref p7), none, some (.int ((k : Int) + (((x :: rr).map V.int).length : Nat))), none, some (.ref pr), none] < ms.length - atOf [some (V.ref g), some (.ref t), some (.ref p0), some (.int way), some (.ref pf), none, some (.int (k : Int)), none, y, none] := by
        show ms.length - ((k : Int) + (((x :: rr).map V.int).length : Nat)).toNat < ms.length - (k : Int).toNat
        rw [List.length_map]
        omega
      have l9 : (rs ++ rs').length + 1 ≤ 2 * (k + (x :: rr).length) := by
        rw [List.length_append]
        omega
      have lst0 : atI ((x :: rr).map V.int) (-1) = some (.int ((x :: rr).getLast (by simp))) := at_last
      refine ⟨_, rfl, rfl, _, rfl, ite2 (fun c3 => ?_) fun c3 => ?_⟩
      · refine ⟨_, rfl, .inl ⟨rfl, _, SqL.of e7⟩, _, rfl, _, rfl, pr, _, _, _, rfl, rfl, SqL.of er9, lst0, _, rfl, pr, _, 0, .int x, rfl, rfl, SqL.of er9, atI_nat (j := 0) rfl, by show 2 ≤ sizeLine; decide, fun T nT => ?_⟩
        have mT := same_new nT (o := .tup [.int ((x :: rr).getLast (by simp)), .int x])
        have eT : upd H9 T (.tup [.int ((x :: rr).getLast (by simp)), .int x]) T = some (.tup [.int ((x :: rr).getLast (by simp)), .int x]) := upd_same
        generalize upd H9 T (.tup [.int ((x :: rr).getLast (by simp)), .int x]) = H11 at mT eT ⊢
        have e11 := mT _ _ e7
        refine ⟨p7, _, _, rfl, rfl, e11, small1000 (by omega), ?_⟩
        have npp : pr ≠ p7 := ne_of_none (kp' _ _ npr0 er7) n7
        refine ⟨_, rfl, _, rfl, pr, _, rfl, .inl (SqL.of (by rw [upd_ne npp]; exact mT _ _ er9)), _, _, rfl, rfl, fin true (rs ++ rs' ++ [.ref T]) _ upd_same ?_ ?_ ((k9.trans (Keep.of_same mT)).upd_new n74) (((gn9.mono (show n + 3 * ns.length + 3 + 6 * k + 3 ≤ n + 3 * ns.length + 3 + 6 * k + 6 by omega)).same mT).upd n7g.symm), less⟩
        · rw [List.length_append, List.length_singleton]
          omega
        · have z := (Tups.put eT (tp9.keep (tk_same mT))).keep (tk_lst (ys := rs ++ rs' ++ [.ref T]) e11)
          show Tups _ _ ((ps ++ ((x :: rr).zip rr ++ [((x :: rr).getLast (by simp), x)])).map pairV)
          rw [← List.append_assoc, List.map_append]
          exact z
      · refine ⟨_, rfl, g, 2, _, rfl, gn9, by decide, by decide, by omega, fun r2 H10 r20 r21 gn10 b10 => ⟨rfl, _, rfl, ?_⟩⟩
        have e710 := (b10 p7 n7g).trans e7
        have er10 := (b10 pr npr0).trans er9
        have tp10 := tp9.keep (tk_keep (Keep.of_but b10) gn9)
        have k10 := k9.trans (Keep.of_but b10)
        refine ite2 (fun c4 => ?_) fun c4 => ?_
        · refine ⟨_, rfl, .inl ⟨rfl, _, SqL.of e710⟩, _, rfl, _, rfl, pr, _, _, _, rfl, rfl, SqL.of er10, lst0, _, rfl, pr, _, 0, .int x, rfl, rfl, SqL.of er10, atI_nat (j := 0) rfl, by show 2 ≤ sizeLine; decide, fun T nT => ?_⟩
          have mT := same_new nT (o := .tup [.int ((x :: rr).getLast (by simp)), .int x])
          have eT : upd H10 T (.tup [.int ((x :: rr).getLast (by simp)), .int x]) T = some (.tup [.int ((x :: rr).getLast (by simp)), .int x]) := upd_same
          generalize upd H10 T (.tup [.int ((x :: rr).getLast (by simp)), .int x]) = H11 at mT eT ⊢
          have e11 := mT _ _ e710
          refine ⟨p7, _, _, rfl, rfl, e11, small1000 (by omega), ?_⟩
          have npp : pr ≠ p7 := ne_of_none (kp' _ _ npr0 er7) n7
          refine ⟨_, rfl, _, rfl, pr, _, rfl, .inl (SqL.of (by rw [upd_ne npp]; exact mT _ _ er10)), _, _, rfl, rfl, fin true (rs ++ rs' ++ [.ref T]) _ upd_same ?_ ?_ ((k10.trans (Keep.of_same mT)).upd_new n74) (((gn10.mono (show n + 3 * ns.length + 3 + 6 * k + 3 + 3 ≤ n + 3 * ns.length + 3 + 6 * k + 6 by omega)).same mT).upd n7g.symm), less⟩
          · rw [List.length_append, List.length_singleton]
            omega
          · have z := (Tups.put eT (tp10.keep (tk_same mT))).keep (tk_lst (ys := rs ++ rs' ++ [.ref T]) e11)
            show Tups _ _ ((ps ++ ((x :: rr).zip rr ++ [((x :: rr).getLast (by simp), x)])).map pairV)
            rw [← List.append_assoc, List.map_append]
            exact z
        · refine ⟨_, rfl, _, rfl, pr, _, rfl, .inl (SqL.of er10), _, _, rfl, rfl, fin false (rs ++ rs') _ e710 (by omega) ?_ k10 (gn10.mono (by omega)), less⟩
          show Tups _ _ ((ps ++ ((x :: rr).zip rr ++ [])).map pairV)
          rw [List.append_nil]
          exact tp10
    · -- the end
      have hk2 : k = ms.length := by
        have z := of_decide_eq_false (Bool.eq_false_iff.mpr c)
        rw [List.length_map] at z
        omega
      rw [hk2, List.take_length] at j1 j2
      exact ⟨_, rfl, q pf rs ps H' (inj_oneToOne j1 j2 subm) (k4.trans kp) npf ef tp (gn.mono (by omega))⟩
  · obtain ⟨v, e, v2, e2, p, ys, e3, o, i, j, ei, ej, kk, ek, z⟩ := hc
    exact ⟨v, e, v2, e2, p, ys, e3, o, i, j, ei, ej, kk, ek, h _ _ z⟩
end
end DQ

set_option Elab.async false
set_option linter.all false
set_option maxRecDepth 100000
set_option maxHeartbeats 4000000
namespace DQ
open PySem PySem.Spec PyProof.Rows L2
/-- rising items -/
def Rising (ns : List Int) : Prop := ns.Pairwise (· < ·) ∧ ∀ x ∈ ns, 0 ≤ x ∧ x ≤ 1000000000
theorem Rising.nodup {ns : List Int} (h : Rising ns) : ns.Nodup := h.1.imp fun h e => by omega
theorem rising_put {ns : List Int} {v : Int} (h : Rising ns) (hv : ∀ x ∈ ns, x < v) (v0 : 0 ≤ v) (v1 : v ≤ 1000000000) : Rising (ns ++ [v]) := by
  refine ⟨List.pairwise_append.mpr ⟨h.1, List.pairwise_singleton _ _, fun x hx y hy => ?_⟩, fun x hx => ?_⟩
  · rw [List.mem_singleton] at hy
    rw [hy]
    exact hv x hx
  · rcases List.mem_append.mp hx with z | z
    · exact h.2 x z
    · rw [List.mem_singleton] at z
      rw [z]
      exact ⟨v0, v1⟩
end DQ

set_option Elab.async false
set_option linter.all false
set_option maxRecDepth 100000
set_option maxHeartbeats 4000000
namespace DQ
open PySem PySem.Spec PyProof.Rows L2
/-! ### sorted(xs), the items data of one shape -/
theorem vals_each {β : Type} : ∀ {zs : List (V × β)} {us : List Value}, Vals (zs.map (·.1)) us → PySem.W.EachIs (fun (u : Value) (z : V × β) => RelV z.1 u) us zs
  | [], _, .nil => .nil
  | _ :: _, _, .cons r t => .cons r (vals_each t)
theorem each_vals {β : Type} : ∀ {us : List Value} {zs : List (V × β)}, PySem.W.EachIs (fun (u : Value) (z : V × β) => RelV z.1 u) us zs → Vals (zs.map (·.1)) us
  | _, _, .nil => .nil
  | _, _, .cons r t => .cons r (each_vals t)
def rSortD {β : Type} (enc : β → PyData) (K : PySem.W.Frag) : List V → Hp → VK → Prop := fun vs H Q => ∃ (a : Addr) (zs : List (V × β)), vs = [.ref a] ∧ SqL K H a (zs.map (·.1)) ∧ (∀ z ∈ zs, Dp K H z.1 (enc z.2)) ∧ PySem.W.AllAlike (zs.map fun z => enc z.2) ∧ PySem.W.Sortable (zs.map fun z => enc z.2) ∧
  (∀ z ∈ zs, (enc z.2).depth ≤ 8) ∧ ∀ p, H p = none → Q (.ref p) (upd H p (.lst ((zs.mergeSort (PySem.W.dataLe false fun z => enc z.2)).map (·.1))))
theorem each_reads {X : Cx} {pins : List (Addr × Obj)} {σ : L2.St} {H : Hp} {s : Shared} {β : Type} {enc : β → PyData} (I : Inv X pins σ H s) : ∀ {zs : List (V × β)} {us : List Value}, Vals (zs.map (·.1)) us → (∀ z ∈ zs, Dp X.K H z.1 (enc z.2)) → PySem.W.EachIs (fun (u : Value) (z : V × β) => ∃ as, Reads s.heap u (enc z.2) as) us zs
  | [], _, .nil, _ => .nil
  | z :: _, _, .cons r t, h => .cons (Dp.reads I _ _ _ (h z (List.mem_cons_self ..)) r) (each_reads I t fun y hy => h y (List.mem_cons_of_mem _ hy))
theorem cr_sortD {X : Cx} {β : Type} {enc : β → PyData} (hu : X.A.units + 64 < cLine) : CallR X (.builtin "sorted") (rSortD enc X.K) := by
  intro pins s σ H vs us Q I r h
  obtain ⟨a, zs, rfl, hs, hd, al, so, dep, q⟩ := h
  obtain ⟨its, rv, hl, hz⟩ := I.list hs
  obtain ⟨u, rfl, ru⟩ := vals1 r
  obtain rfl : u = Value.ref a := ru
  have hz' : its.length ≤ sizeLine := by rw [← rv.length]; exact hz
  have hlen : zs.length = its.length := by rw [← rv.length, List.length_map]
  refine PySem.W.sorted_data (enc := fun z : V × β => enc z.2) hl.isList (vals_each rv) (each_reads I rv hd) al so (by rw [hlen]; exact hz') (fun z hz => by have := dep z hz; omega) fun out ho eo => ?_
  obtain ⟨c, hc⟩ := sortedAll_at s.heap its out.toArray
  have ro := each_vals eo
  have hn : H (s.heap.objs.size + 1) = none := I.hok.fresh (Nat.le_succ _)
  refine ⟨.ref (s.heap.objs.size + 1), _, I.laid (t' := s.toks) (o := .lst ((zs.mergeSort (PySem.W.dataLe false fun z => enc z.2)).map (·.1))) (fun _ _ => sortedAll_old) (Nat.le_succ _) ⟨?_, out, c, ro, hc⟩, rfl, q _ hn⟩
  rw [ro.length, ho, hlen]
  exact hz'
end DQ

set_option Elab.async false
set_option linter.all false
set_option maxRecDepth 100000
namespace DQ
open PySem PySem.Spec PyProof.Rows L2
/-- a fact -/
inductive Fact where
  | mark (m : Str) (i : Int)
  | link (c : Str) (a b : Int)
def Fact.v : Fact → List V
  | .mark m i => [.str "mark", .str m, .int i]
  | .link c a b => [.str "link", .str c, .int a, .int b]
def Fact.d : Fact → PyData
  | .mark m i => .tuple [.str "mark", .str m, .int i]
  | .link c a b => .tuple [.str "link", .str c, .int a, .int b]
/-- the links of a column -/
def Fact.on (c : Str) : Fact → Option (Int × Int)
  | .mark _ _ => none
  | .link c' a b => if c' = c then some (a, b) else none
def linksOf (c : Str) (fs : List Fact) : List (Int × Int) := fs.filterMap (Fact.on c)
structure Store where
  marks : List Str
  columns : List Str
  items : List Int
  facts : List Fact
def Fact.of (S : Store) : Fact → Prop
  | .mark m i => m ∈ S.marks ∧ i ∈ S.items
  | .link c a b => c ∈ S.columns ∧ a ∈ S.items ∧ b ∈ S.items
/-- a drawn store of at most so many items -/
structure Drawn (m : Nat) (S : Store) : Prop where
  marks : ∃ k, k ≤ 3 ∧ S.marks = (["red", "blue", "gold"] : List Str).take k
  columns : ∃ k, 1 ≤ k ∧ k ≤ 2 ∧ S.columns = (["next", "below"] : List Str).take k
  items : Rising S.items
  few : S.items.length ≤ m
  short : S.facts.length ≤ 1000
  rise : S.facts.Pairwise fun x y => PySem.W.dataLt x.d y.d = true
  facts : ∀ x ∈ S.facts, x.of S
  links : ∀ c, OneToOne S.items (linksOf c S.facts)
theorem str_inj {x y : Str} (h : x.cps.toList = y.cps.toList) : x = y := PySem.W.str_of_cps h
theorem fact_toks {x y : Fact} (h : PySem.W.keyToks x.d = PySem.W.keyToks y.d) : x = y := by
  cases x with
  | mark m i =>
    cases y with
    | mark m' i' =>
      simp only [Fact.d, PySem.W.keyToks, PySem.W.keyToksAll, List.cons_append, List.nil_append, List.cons.injEq, Sum.inr.injEq, Sum.inl.injEq, true_and, and_true] at h
      rw [str_inj h.1, h.2]
    | link c a b =>
      simp only [Fact.d, PySem.W.keyToks, PySem.W.keyToksAll, List.cons_append, List.nil_append, List.cons.injEq, Sum.inr.injEq, Sum.inl.injEq, true_and, and_true] at h
      exact absurd h.1 (by decide)
  | link c a b =>
    cases y with
    | mark m' i' =>
      simp only [Fact.d, PySem.W.keyToks, PySem.W.keyToksAll, List.cons_append, List.nil_append, List.cons.injEq, Sum.inr.injEq, Sum.inl.injEq, true_and, and_true] at h
      exact absurd h.1 (by decide)
    | link c' a' b' =>
      simp only [Fact.d, PySem.W.keyToks, PySem.W.keyToksAll, List.cons_append, List.nil_append, List.cons.injEq, Sum.inr.injEq, Sum.inl.injEq, true_and, and_true] at h
      rw [str_inj h.1, h.2.1, h.2.2]
theorem fact_lt {x y : Fact} (ne : x ≠ y) (h : PySem.W.dataLt y.d x.d = false) : PySem.W.dataLt x.d y.d = true := by
  cases q : PySem.W.dataLt x.d y.d with
  | true => rfl
  | false => exact absurd (fact_toks (lex_total _ _ q h)) ne
theorem sorted_rise {zs : List (V × Fact)} (nd : (zs.map (·.2)).Nodup) : ((zs.mergeSort (PySem.W.dataLe false fun z => z.2.d)).map (·.2)).Pairwise fun x y => PySem.W.dataLt x.d y.d = true := by
  have pm : (zs.mergeSort (PySem.W.dataLe false fun z => z.2.d)).Perm zs := List.mergeSort_perm _ _
  have nd2 : ((zs.mergeSort (PySem.W.dataLe false fun z => z.2.d)).map (·.2)).Nodup := (pm.map (·.2)).nodup_iff.mpr nd
  have so := PySem.W.sort_pairwise (PySem.W.sortLe_total (listOrd itemOrd) false fun z : V × Fact => PySem.W.keyToks z.2.d) zs
  refine List.pairwise_map.mpr ?_
  have nd3 := List.pairwise_map.mp nd2
  exact (List.pairwise_and_iff.mpr ⟨so, nd3⟩).imp fun {a b} h => fact_lt h.2 (by
    have z : (!PySem.W.dataLt b.2.d a.2.d) = true := h.1
    simpa using z)
theorem OneToOne.perm {ns : List Int} {ps qs : List (Int × Int)} (h : OneToOne ns ps) (p : qs.Perm ps) : OneToOne ns qs :=
  ⟨(p.map (·.1)).nodup_iff.mpr h.1, (p.map (·.2)).nodup_iff.mpr h.2.1, fun x hx => h.2.2 x (p.subset hx)⟩
theorem links_perm {c : Str} {fs gs : List Fact} (p : fs.Perm gs) : (linksOf c fs).Perm (linksOf c gs) := p.filterMap _
theorem links_append {c : Str} {fs gs : List Fact} : linksOf c (fs ++ gs) = linksOf c fs ++ linksOf c gs := List.filterMap_append
end DQ
namespace DQ
open PySem PySem.Spec PyProof.Rows L2
theorem links_marks {c : Str} {fs : List Fact} (h : ∀ x ∈ fs, ∃ m i, x = Fact.mark m i) : linksOf c fs = [] := by
  unfold linksOf
  refine List.filterMap_eq_nil_iff.mpr fun x hx => ?_
  obtain ⟨m, i, rfl⟩ := h x hx
  rfl
theorem links_self {c : Str} : ∀ ps : List (Int × Int), linksOf c (ps.map fun p => Fact.link c p.1 p.2) = ps
  | [] => rfl
  | p :: r => by
    have ih := links_self (c := c) r
    unfold linksOf at ih ⊢
    rw [List.map_cons, List.filterMap_cons_some (b := p) (by show (if c = c then some (p.1, p.2) else none) = some p; rw [if_pos rfl]), ih]
theorem links_other {c c' : Str} (ne : c ≠ c') (ps : List (Int × Int)) : linksOf c' (ps.map fun p => Fact.link c p.1 p.2) = [] := by
  unfold linksOf
  refine List.filterMap_eq_nil_iff.mpr fun x hx => ?_
  obtain ⟨p, _, rfl⟩ := List.mem_map.mp hx
  show (if c = c' then some (p.1, p.2) else none) = none
  rw [if_neg ne]
theorem len_sub : ∀ {l m : List Int}, l.Nodup → (∀ x ∈ l, x ∈ m) → l.length ≤ m.length
  | [], _, _, _ => Nat.zero_le _
  | x :: l, m, nd, h => by
    have hx := h x (List.mem_cons_self ..)
    obtain ⟨h1, h2⟩ := List.nodup_cons.mp nd
    have z := len_sub (l := l) (m := m.erase x) h2 fun y hy => (List.mem_erase_of_ne (fun e => h1 (by rw [← e]; exact hy))).mpr (h y (List.mem_cons_of_mem _ hy))
    rw [List.length_erase_of_mem hx] at z
    have := List.length_pos_of_mem hx
    rw [List.length_cons]
    omega
theorem OneToOne.len {ns : List Int} {ps : List (Int × Int)} (h : OneToOne ns ps) : ps.length ≤ ns.length := by
  have z := len_sub h.1 fun x hx => by
    obtain ⟨p, hp, rfl⟩ := List.mem_map.mp hx
    exact (h.2.2 p hp).1
  rw [List.length_map] at z
  exact z
theorem OneToOne.nodup {ns : List Int} {ps : List (Int × Int)} (h : OneToOne ns ps) : ps.Nodup := (List.pairwise_map.mp h.1).imp fun h e => h (by rw [e])
theorem oneToOne_nil (ns : List Int) : OneToOne ns [] := ⟨List.nodup_nil, List.nodup_nil, fun p h => by cases h⟩
theorem Tups.get {H : Hp} : ∀ {rs : List V} {ts : List (List V)} {k : Nat} {x : V}, Tups H rs ts → rs[k]? = some x → ∃ a t, x = .ref a ∧ H a = some (.tup t) ∧ ts[k]? = some t
  | _, _, k, x, .nil, h => by simp at h
  | _, _, 0, x, .cons ⟨a, e, h1⟩ _, h => by
    cases h
    exact ⟨a, _, e, h1, rfl⟩
  | _, _, k + 1, x, .cons _ r, h => Tups.get r (k := k) (by simpa using h)
theorem Tups.length {H : Hp} {rs : List V} {ts : List (List V)} (h : Tups H rs ts) : rs.length = ts.length := Paired.length h
theorem Tups.zip {H : Hp} : ∀ {rs : List V} {fs : List Fact}, Tups H rs (fs.map Fact.v) → ∀ z ∈ rs.zip fs, ∃ a, z.1 = .ref a ∧ H a = some (.tup z.2.v)
  | [], [], _, z, h => by cases h
  | [], _ :: _, t, _, _ => by cases t
  | _ :: _, [], t, _, _ => by cases t
  | r :: rs, f :: fs, .cons h t, z, hz => by
    rcases List.mem_cons.mp hz with e | e
    · rw [e]
      exact h
    · exact Tups.zip t z e
theorem tups_of {H : Hp} : ∀ zs : List (V × Fact), (∀ z ∈ zs, ∃ a, z.1 = .ref a ∧ H a = some (.tup z.2.v)) → Tups H (zs.map (·.1)) ((zs.map (·.2)).map Fact.v)
  | [], _ => .nil
  | z :: r, h => .cons (h z (List.mem_cons_self ..)) (tups_of r fun y hy => h y (List.mem_cons_of_mem _ hy))
theorem fact_dp {K : PySem.W.Frag} {H : Hp} {a : Addr} {x : Fact} (h : H a = some (.tup x.v)) : Dp K H (.ref a) x.d := by
  cases x with
  | mark m i => exact .tup (.inl (.inl h)) (.cons (.str _) (.cons (.str _) (.cons (.int _) .nil)))
  | link c a b => exact .tup (.inl (.inl h)) (.cons (.str _) (.cons (.str _) (.cons (.int _) (.cons (.int _) .nil))))
theorem fact_alike (x y : Fact) : PySem.W.alike x.d y.d = true := by
  cases x <;> cases y <;> rfl
theorem fact_depth (x : Fact) : x.d.depth ≤ 8 := by
  cases x
  · show 0 + 1 ≤ 8
    decide
  · show 0 + 1 ≤ 8
    decide
theorem fact_tuple (x : Fact) : ∃ y r, x.d = .tuple (y :: r) := by
  cases x
  · exact ⟨_, _, rfl⟩
  · exact ⟨_, _, rfl⟩
theorem links_out {S : Store} {c : Str} {fs : List Fact} (h : ∀ x ∈ fs, x.of S) (nc : c ∉ S.columns) : linksOf c fs = [] := by
  unfold linksOf
  refine List.filterMap_eq_nil_iff.mpr fun x hx => ?_
  cases x with
  | mark m i => rfl
  | link c' a b =>
    have z := (h _ hx).1
    show (if c' = c then some (a, b) else none) = none
    rw [if_neg fun e => nc (by rw [← e]; exact z)]
end DQ

set_option Elab.async false
set_option linter.all false
set_option maxRecDepth 100000
set_option maxHeartbeats 4000000
namespace DQ
open PySem PySem.Spec PyProof.Rows L2
/-- the store stands at v -/
def StoAt (H : Hp) (v : V) (S : Store) : Prop := ∃ (a m c i f : Addr) (rs : List V), v = .ref a ∧ H a = some (.tup [.str "store", .ref m, .ref c, .ref i, .ref f]) ∧ H m = some (.lst (S.marks.map V.str)) ∧ H c = some (.lst (S.columns.map V.str)) ∧ H i = some (.lst (S.items.map V.int)) ∧ H f = some (.lst rs) ∧ Tups H rs (S.facts.map Fact.v)
theorem tk_del {g : Addr} {H : Hp} {n : Int} (G : Gen H g n) : TupKeep H (del H g) := fun a t h => by
  obtain ⟨x, y, z, eg, _⟩ := G
  rw [del_ne (fun e => by rw [e, eg] at h; cases h)]
  exact h
theorem cut_take {xs : List V} {r : Int} (h0 : 0 ≤ r) : cutV xs none (some r) = xs.take r.toNat := by
  have e : r = ((r.toNat : Nat) : Int) := by omega
  unfold cutV
  rw [HT.sIx_none, List.drop_zero, e, show HT.sIx xs.length xs.length (some ((r.toNat : Nat) : Int)) = min r.toNat xs.length from HT.sIx_nat _ _ _, Nat.sub_zero, Int.toNat_natCast]
  by_cases h : r.toNat ≤ xs.length
  · rw [Nat.min_eq_left h]
  · rw [Nat.min_eq_right (by omega), List.take_length, List.take_of_length_le (by omega)]
theorem at_map {α β : Type} {f : α → β} {l : List α} {i : Nat} {y : β} (h : (l.map f)[i]? = some y) : ∃ x, l[i]? = some x ∧ y = f x := by
  rw [List.getElem?_map] at h
  obtain ⟨x, hx, e⟩ := Option.map_eq_some_iff.mp h
  exact ⟨x, hx, e.symm⟩
end DQ

set_option Elab.async false
set_option linter.all false
set_option maxRecDepth 100000
set_option maxHeartbeats 4000000
/-! ### len(set(texts)), a list of any length -/
namespace DQ
open PySem PySem.Spec PyProof.Rows L2
/-- how many differ among the first i -/
def differ (xs : List Str) : Nat → Nat
  | 0 => 0
  | i + 1 => if (xs.take i).any (· == xs.getD i Str.empty) = true then differ xs i else differ xs i + 1
theorem differ_le (xs : List Str) : ∀ i, differ xs i ≤ i
  | 0 => Nat.le_refl _
  | i + 1 => by
    have := differ_le xs i
    unfold differ
    split <;> omega
theorem differ_nodup {xs : List Str} (nd : xs.Nodup) : ∀ i, i ≤ xs.length → differ xs i = i
  | 0, _ => rfl
  | i + 1, h => by
    have e : xs[i]? = some (xs.getD i Str.empty) := by
      rw [List.getD_eq_getElem?_getD, List.getElem?_eq_getElem (by omega)]
      rfl
    have no : ¬ (xs.take i).any (· == xs.getD i Str.empty) = true := fun q => by
      obtain ⟨y, hy, ey⟩ := List.any_eq_true.mp q
      have z : (xs.take i ++ [xs.getD i Str.empty]).Nodup := by
        rw [← take_next e]
        exact (List.take_sublist _ _).nodup nd
      exact (List.nodup_append.mp z).2.2 y hy _ (List.mem_singleton.mpr rfl) (eq_of_beq ey)
    unfold differ
    rw [if_neg no, differ_nodup nd i (by omega)]
theorem any_next {xs : List Str} {i : Nat} (h : i < xs.length) (k : Str) : ((xs.take i).any (· == k) || decide (k = xs.getD i Str.empty)) = (xs.take (i + 1)).any (· == k) := by
  have e : xs[i]? = some (xs.getD i Str.empty) := by
    rw [List.getD_eq_getElem?_getD, List.getElem?_eq_getElem h]
    rfl
  rw [take_next e, List.any_append]
  congr 1
  show decide (k = xs.getD i Str.empty) = ((xs.getD i Str.empty == k) || false)
  rw [Bool.or_false]
  by_cases q : k = xs.getD i Str.empty
  · rw [← q]; simp
  · rw [decide_eq_false q]
    exact (beq_eq_false_iff_ne.mpr fun z => q z.symm).symm
section
variable {prog : Program} {w : World} {A : Around} {R : Result → Shared → Prop} {I : Addr} {fp wr : List Addr} {G : Array GenState → Array GenState → Prop} {n : Nat} {P : Nat → Value → Prop} {St : Nat → Shared → Prop}
theorem texts_in (W : WalksS prog w A.in1 I fp wr G n P St) {S : Addr} (out : S ∉ fp) {xs : List Str} (len : xs.length = n) (few : n + 1 < scanBound) (val : ∀ i v, P i v → ∃ t, v = .str (xs.getD i Str.empty) t) :
    ∀ (k i : Nat) (s : Shared), n - i = k → i ≤ n → St i s → s.heap.SetOf (PySem.strKind prog w) S (fun z => (xs.take i).any (· == z)) (differ xs i) →
      (∀ s', Moved (S :: wr) G s s' → s'.heap.SetOf (PySem.strKind prog w) S (fun z => (xs.take n).any (· == z)) (differ xs n) → R (.ok (.ret .none)) s') →
      codeAny (model prog w) A (.builtin "set.update.loop" ⟨[.ref S, .ref I], []⟩) R s := by
  have outw : S ∉ wr := fun h => out (W.sub _ h)
  have more : ∀ b ∈ wr, b ∈ S :: wr := fun b h => List.mem_cons_of_mem _ h
  have kept : ∀ {s s' : Shared} {T : Str → Bool} {c : Nat}, Moved wr G s s' → s.heap.SetOf (PySem.strKind prog w) S T c → s'.heap.SetOf (PySem.strKind prog w) S T c := fun m ⟨o, es, ep, t, ho, r⟩ => ⟨o, es, ep, t, m.heap S _ outw ho, r⟩
  intro k
  induction k with
  | zero =>
    intro i s hk hi st hS done
    obtain rfl : i = n := by omega
    refine codeAny_builtin PyProof.Rows.F.entry_set_update_loop ?_
    rw [Around.under_plainId PyProof.Rows.F.plain_set_update_loop _]
    show wpAny _ A.in1 (pyNext (.ref I) >>= _) _ _ s
    refine wpAny_bind (W.done s _ _ st fun s' m => ?_)
    show wpAny _ A.in1 (ret Value.none) _ _ s'
    exact wpAny_pure (done s' (m.mono more) (kept m hS))
  | succ k ih =>
    intro i s hk hi st hS done
    have lt : i < n := by omega
    refine codeAny_builtin PyProof.Rows.F.entry_set_update_loop ?_
    rw [Around.under_plainId PyProof.Rows.F.plain_set_update_loop _]
    show wpAny _ A.in1 (pyNext (.ref I) >>= _) _ _ s
    refine wpAny_bind (W.item i s _ _ lt st fun v s' hP st' m => ?_)
    obtain ⟨t, rfl⟩ := val i v hP
    have hS1 := kept m hS
    show wpAny _ A.in1 (holding [Value.str (xs.getD i Str.empty) t] (setAdd S (.str (xs.getD i Str.empty) t)) >>= _) _ _ s'
    refine wpAny_bind (wpAny_holding ?_)
    unfold setAdd
    refine wpAny_holding (wpAny_bind ((PySem.strKind prog w).pyHash (k := xs.getD i Str.empty) (strKind_is _ _ _ _) ?_))
    refine wpAny_setAddHashed_of (knd := PySem.strKind prog w) (s := { s' with toks := s'.toks + 1 }) (strKind_is _ _ _ _) rfl hS1 (by have := differ_le xs i; omega) fun h' same hS2 => ?_
    refine wpAny_pure ⟨plainId_quiet PyProof.Rows.F.plain_set_update_loop _, ih (i + 1) _ (by omega) lt (W.frame _ s' _ _ st' (Nat.le_succ _) fun b hb o e => ?_) (SetOf_congr hS2 (fun z => any_next (by omega) z) rfl) fun s'' m2 hS3 => ?_⟩
    · rw [same.2 b fun z : b = S => out (by rw [← z]; exact hb)]
      exact e
    · refine done s'' (Moved.trans W.gtrans ((m.mono more).then_heap (Nat.le_succ _) fun b o hb e => ?_) m2) hS3
      rw [same.2 b fun z : b = S => hb (by rw [z]; exact List.mem_cons_self)]
      exact e
end
section
variable {prog : Program} {w : World} {A : Around} {E : Value → Shared → Prop} {s : Shared}
theorem set_of_texts {l : Addr} {items : Array Value} {xs : List Str} {Q : Value → Shared → Prop} (hh : A.handled = none) (hl : s.heap.IsList l items) (hi : StrsAre items.toList xs) (few : items.size + 1 < scanBound)
    (done : ∀ (h' : Heap) (tk : Nat), h'.SetOf (PySem.strKind prog w) s.heap.objs.size (fun z => (xs.take items.size).any (· == z)) (differ xs items.size) →
      (∀ b o, b < s.heap.objs.size → s.heap.get? b = some o → h'.get? b = some o) → Q (.ref s.heap.objs.size) { s with heap := h', toks := tk }) :
    wpAny (model prog w) A (call (.type "set") [.ref l]) Q E s := by
  obtain ⟨c, tl, hmro⟩ := PySem.F.called_set.mro
  have made := PySem.F.called_set.made
  have sub := PySem.F.called_set.sub
  refine wpAny_call (codeAny_of_tree ?_)
  show wpAny _ _ (callAny (.type "set") _) _ _ _
  refine wpAny_pure ⟨Code.quiet_builtin _ (by decide +kernel), codeAny_builtin PySem.F.entry_type_call ?_⟩
  rw [Around.under_plain (weight_type_call_type "set" [.ref l] []) rfl]
  have h1 := PySem.F.called_set.notType
  have h2 := PySem.F.called_set.canCreate
  have h3 := PySem.F.typeCall_set_1 (.ref l)
  repeat (any_goals (first | assumption | wp_step))
  refine codeAny_mono (code_set_new_1 (.ref l) (E := E) (Q₁ := fun o s1 => ∃ led : Bool, o = .ref s.heap.objs.size ∧ s1 = { s with heap := s.heap.push { cls := .type "set", dict := none, data := .set #[] 0 (.fresh 0 0 led) } }) fun led => ⟨led, rfl, rfl⟩) fun r s1 hr => ?_
  cases r with
  | error e => exact hr
  | ok fl =>
    cases fl with
    | ret o =>
      obtain ⟨led, rfl, rfl⟩ := hr
      have hS : (s.heap.push { cls := .type "set", dict := none, data := .set #[] 0 (.fresh 0 0 led) }).get? s.heap.objs.size = some { cls := .type "set", dict := none, data := .set #[] 0 (.fresh 0 0 led) } := Heap.get?_push_size _ rfl
      have hT : Shared.TypeIs { s with heap := s.heap.push { cls := .type "set", dict := none, data := .set #[] 0 (.fresh 0 0 led) } } (.ref s.heap.objs.size) "set" := ⟨_, hS, rfl⟩
      have i1 := PySem.F.called_set.init.lookup
      have i2 := PySem.F.called_set.init.bind (.ref s.heap.objs.size)
      repeat (any_goals (first | assumption | wp_step))
      refine codeAny_mono (codeAny_call_builtin (R := wants (fun r s2 => r = .none ∧ ∃ h' tk, s2 = { s with heap := h', toks := tk } ∧ h'.SetOf (PySem.strKind prog w) s.heap.objs.size (fun z => (xs.take items.size).any (· == z)) (differ xs items.size) ∧
          (∀ b o, b < s.heap.objs.size → s.heap.get? b = some o → h'.get? b = some o)) E) PySem.F.called_set.init.plain PySem.F.entry_set_init (check_set_init_1 hT ?_)) fun r s2 hr => ?_
      · obtain ⟨⟨cls, dd, dt, sl⟩, ho, hc, nl, hd⟩ := hl
        simp only at hc hd
        subst hc hd
        have ho1 : (s.heap.push { cls := .type "set", dict := none, data := .set #[] 0 (.fresh 0 0 led) }).get? l = some { cls := .type "list", dict := dd, data := .seq items nl, slots := sl } := Heap.get?_push_of_some _ ho
        have l1 : (s.heap.push { cls := .type "set", dict := none, data := .set #[] 0 (.fresh 0 0 led) }).IsList l items := ⟨_, ho1, rfl, nl, rfl⟩
        have n1 := PySem.F.sub_list_set
        have n2 := PySem.F.sub_list_frozenset
        have n3 : (Value.type "list" == Value.type "dict") = false := by decide
        unfold Builtin.«set.__init__» noKeywords Builtin.Frozenset.updateFrom
        generalize hit : pyIter = it
        wp_walk
        subst hit
        refine wpAny_pyIter_list l1 (wpAny_bind (wpAny_runValue ?_))
        have hlt : l < s.heap.objs.size := Heap.lt_size ho
        have sz := Heap.size_push s.heap { cls := .type "set", dict := none, data := .set #[] 0 (.fresh 0 0 led) }
        have n4 : l ≠ (s.heap.push { cls := .type "set", dict := none, data := .set #[] 0 (.fresh 0 0 led) }).objs.size := by
          rw [sz]
          exact Nat.ne_of_lt (Nat.lt_succ_of_lt hlt)
        have n5 : s.heap.objs.size ∉ [(s.heap.push { cls := .type "set", dict := none, data := .set #[] 0 (.fresh 0 0 led) }).objs.size, l] := fun q => by
          rw [sz] at q
          rcases List.mem_cons.mp q with e | q
          · exact absurd e (Nat.ne_of_lt (Nat.lt_succ_self _))
          · exact absurd (List.mem_singleton.mp q) (Nat.ne_of_gt hlt)
        have val : ∀ (i : Nat) (v : Value), items[i]? = some v → ∃ t, v = .str (xs.getD i Str.empty) t := fun i v hv => SS.strs_at hi i v (by rw [Array.getElem?_toList]; exact hv)
        refine texts_in ((Walks.list (by simp [hh]) _ l n4 items).toS) n5 (by rw [← StrsAre.len_eq hi, Array.length_toList]) few val items.size 0 _ (Nat.sub_zero _) (Nat.zero_le _) ⟨⟨_, Heap.get?_push_size _ rfl, rfl, rfl⟩, l1.push _⟩ ?_ ?_
        · exact SetOf_congr ((setObjOf_fresh (knd := PySem.strKind prog w) led).setOf (Heap.get?_push_of_some _ hS) (by unfold scanBound; omega)) (fun _ => rfl) rfl
        · intro s' m hS'
          obtain ⟨h', g', d', tk', os'⟩ := s'
          obtain rfl : g' = s.gens := m.gens
          obtain rfl : d' = s.drawn := m.drawn
          obtain rfl : os' = s.os := m.os
          show wpAny _ _ _ _ _ _
          refine wpAny_pure ?_
          show wpAny _ _ (ret Value.none) _ _ _
          refine wpAny_pure ⟨rfl, h', tk', rfl, hS', fun b o hb e => m.heap b o (fun q => ?_) (Heap.get?_push_of_some _ (Heap.get?_push_of_some _ e))⟩
          rw [sz] at q
          rcases List.mem_cons.mp q with e | q
          · exact absurd e (Nat.ne_of_lt hb)
          · exact absurd (List.mem_singleton.mp q) (Nat.ne_of_lt (Nat.lt_succ_of_lt hb))
      · cases r with
        | error e => exact hr
        | ok fl2 =>
          cases fl2 with
          | ret r =>
            obtain ⟨rfl, h', tk, rfl, hS', k⟩ := hr
            repeat (any_goals (first | assumption | wp_step))
            exact done _ _ hS' k
          | _ => exact hr.elim
    | _ => exact hr.elim
end
section
variable {X : Cx}
/-- len(set(xs)), xs a list of texts -/
def tLenSetT (K : PySem.W.Frag) (ta : TE) : TE := fun σ H Q => ta σ H fun x H1 => ∃ (l : Addr) (xs : List Str), x = .ref l ∧ SqL K H1 l (xs.map V.str) ∧ xs.length ≤ 1000 ∧ Q (.int (differ xs xs.length : Nat)) H1
theorem pe_lenSetT {a : Expr} {ta : TE} {p p2 q pos : Pos} (hc : X.calm = true) (hg : Gl X "len") (hm : X.mg "len" = none) (hg2 : Gl X "set") (hm2 : X.mg "set" = none) (ha : PE X a ta)
    (na : starEach [a] X.env = (false, eval a X.env) :: starEach [] X.env := by rfl) : PE X (.Call (.Name "len" p) [.Call (.Name "set" p2) [a] [] q] [] pos) (tLenSetT X.K ta) := by
  refine ⟨fun pins s σ H Q I h => ?_⟩
  refine Call_ (ld_blt I hg hm boot_len ?_)
  refine callWith_builtin1 (args_cons ?_ rfl) rfl rfl
  refine Call_ (ld_blt I hg2 hm2 boot_set ?_)
  refine callWith_type1 (args_cons (thn (ha.run pins s σ H _ I h) fun v s1 ⟨x, H1, I1, r1, q1⟩ => args_nil ?_) na) na rfl
  obtain ⟨l, xs, rfl, hq, h1, q1⟩ := q1
  cases r1
  obtain ⟨its, r, pl, hz⟩ := I1.list hq
  have hl : its.toArray.size = xs.length := by rw [List.size_toArray, ← r.length, List.length_map]
  refine set_of_texts (I1.ok.hd hc) pl.isList (by simpa using strsAre_of r) (by unfold scanBound; omega) fun h' tk hS hk => args_nil ?_
  rw [hl] at hS
  obtain ⟨o, es, ep, t, ho, hex, hd, _, _, _, hf, hn⟩ := hS
  have I2 : Inv X pins σ H1 { s1 with heap := h', toks := tk } := I1.kept fun b o e => hk b o (Heap.lt_size e) e
  have dl := differ_le xs xs.length
  exact call_len_set ho hex hd hf (by rw [hn] <;> omega) ⟨.int (differ xs xs.length : Nat), H1, I2.tok _, ⟨_, by rw [hn]⟩, q1⟩
end
end DQ

set_option Elab.async false
set_option linter.all false
set_option maxRecDepth 100000
set_option maxHeartbeats 4000000
namespace DQ
open PySem PySem.Spec PyProof.Rows L2
/-! ### a comprehension whose items are flags, without an if -/
theorem same_upd {H H' : Hp} {D : Addr} {o : HO} (s : Same H H') (nD : H D = none) : Same H (upd H' D o) := fun b u e => by
  rw [upd_ne (ne_of_none e nD)]
  exact s b u e
theorem yes_if {A B : Prop} (h : A) : if (true : Bool) = true then A else B := (if_pos rfl : (if (true : Bool) = true then A else B) = A).mpr h
theorem lc_bools {J : It} {n : Nat} {G : Hp → Prop} {Y : Nat → Hp → V → Hp → Prop} (w : Walk J n G Y) {g : TG} {te : TE} {vs : List Nat} {σ : L2.St} {H1 : Hp} {D : Addr} {Qd : Hp → Prop} (bs : List Bool) (hn : bs.length = n) (few : n < sizeLine) (nD : H1 D = none)
    (hG : ∀ H, Same H1 H → G H) (hY : ∀ i H x H', Y i H x H' → Same H H')
    (hs : ∀ i x H H' b, i < n → bs[i]? = some b → Same H1 H → Y i H x H' → ∀ R : V → Hp → Prop, (∀ H4, Same H' H4 → R (.bl b) H4) → g x (wipe σ vs) H' fun σ2 H2 => wipe σ2 vs = wipe σ vs ∧ te σ2 H2 R)
    (hd : ∀ H, Same H1 H → H D = some (.lst (bs.map V.bl)) → Qd H) (gm : ∀ x σ H (Q Q' : L2.St → Hp → Prop), (∀ σ H, Q σ H → Q' σ H) → g x σ H Q → g x σ H Q') :
    ∃ W : Nat → Nat → Hp → Prop, (∃ m, W 0 m (upd H1 D (.lst []))) ∧ ∀ i m H, W i m H →
      (J.stop i H ∧ Qd H) ∨ (J.go i H ∧ ∃ Nx : Hp → Prop, (∀ H', Nx H' → ∃ m', m' < m ∧ W (i + 1) m' H') ∧ ∀ x H', J.yld i H x H' → g x (wipe σ vs) H' fun σ2 H2 => wipe σ2 vs = wipe σ vs ∧ tYes σ2 H2 fun b H3 =>
        if b = true then te σ2 H3 fun y H4 => ∃ acc, H4 D = some (.lst acc) ∧ acc.length < sizeLine ∧ Nx (upd H4 D (.lst (acc ++ [y]))) else Nx H3) := by
  refine lc_it w (fun i H => H D = some (.lst ((bs.take i).map V.bl)) ∧ Same H1 H) ⟨upd_same, same_new nD⟩ (fun i H _ p => hG H p.2) (fun i x H H' hi p y => ?_) fun H p => hd H p.2 (by rw [← hn, List.take_length] at p; exact p.1)
  obtain ⟨e, s⟩ := p
  have hb : bs[i]? = some bs[i] := List.getElem?_eq_getElem (by omega)
  refine (fun z => gm x _ _ _ _ (fun σ2 H2 z => ⟨z.1, z.2⟩) z) (hs i x H H' _ hi hb s y (fun y H4 => ∃ acc, H4 D = some (.lst acc) ∧ acc.length < sizeLine ∧ upd H4 D (.lst (acc ++ [y])) D = some (.lst ((bs.take (i + 1)).map V.bl)) ∧ Same H1 (upd H4 D (.lst (acc ++ [y])))) fun H4 s4 => ?_)
  have e4 := s4 _ _ (hY _ _ _ _ y _ _ e)
  refine ⟨_, e4, ?_, ?_, ?_⟩
  · rw [List.length_map, List.length_take]
    omega
  · rw [take_next hb, List.map_append]
    exact upd_same
  · exact same_upd ((s.trans (hY _ _ _ _ y)).trans s4) nD
end DQ

set_option Elab.async false
set_option linter.all false
set_option maxRecDepth 100000
set_option maxHeartbeats 4000000
namespace DQ
open PySem PySem.Spec PyProof.Rows L2
abbrev sIsWord : Stmt := topS 12
abbrev sSpelled : Stmt := topS 13
def letters : Str := "abcdefghijklmnopqrstuvwxyz"
def wordSigns : Str := "abcdefghijklmnopqrstuvwxyz0123456789"
def reserved : List Str := ["all", "and", "false", "in", "link", "mark", "not", "or", "same", "some", "true"]
/-- a text of 1 to 30 signs that are small letters or digits, the first a letter -/
def spelled (x : Str) : Bool := decide (1 ≤ x.length) && decide (x.length ≤ 30) && (x.cps.toList.head?.any fun c => decide (c ∈ letters.cps.toList)) && x.cps.toList.all fun c => decide (c ∈ wordSigns.cps.toList)
def wordB (x : Str) : Bool := spelled x && !inV (.str x) (reserved.map V.str)
theorem scIsWord : FnScope ["value"] ["value"] (defScope sIsWord) := ⟨rfl, rfl, rfl, by decide +kernel, rfl, by decide +kernel, by decide +kernel⟩
theorem scSpelled : FnScope ["text", "sign"] ["text"] (defScope sSpelled) := ⟨rfl, rfl, rfl, by decide +kernel, rfl, by decide +kernel, by decide +kernel⟩
section
variable {P : Program} {w : World} {K : PySem.W.Frag} {mg : Str → Option Value} {base : Heap}
def spSpelled : Sp := fun vs H Q _ => ∃ x : Str, vs = [.str x] ∧ x.length ≤ 1000 ∧ ∀ H', Same H H' → Q (.bl (spelled x)) H'
theorem ok_spelled {f : Addr} {fd : FuncData} {t1 t2 t3 : Tok} (F : Fun K "is_spelled" "is_spelled" sSpelled f fd) (mL : mg "LETTERS" = some (.str letters t1)) (mW : mg "WORD_SIGNS" = some (.str wordSigns t2)) (mM : mg "MOST_SIGNS" = some (.int 30 t3))
    (mLen : mg "len" = none) (mAll : mg "all" = none) : FnOk P w K mg base CX0 1 f fd ["text"] spSpelled := by
  refine F.ok scSpelled (fun vs H Q E h => ?_) (fun cdv A outer s H vs Q E hr h => ?_)
  · obtain ⟨x, rfl, _⟩ := h
    rfl
  obtain ⟨x, rfl, few, q⟩ := h
  have nd := scSpelled.nd
  refine ⟨_, (pss_cons (ps_if (PW.pt (pw_or (pt_not (pt_chain op_le op_le pe_int (pe_callB call_len_str (by rfl) mLen PySem.boot_len (pa_cons (pv 0) pa_nil)) (pe_glob (v := .int 30) (by rfl) mM ⟨_, rfl⟩))) (pw_or1 (pt_cmpR op_notIn_sign (pe_ix (r := rIxS) ix_str (pv 0) pe_int (fun _ _ => rfl)) (pe_glob (v := .str letters) (by rfl) mL ⟨_, rfl⟩) (by rfl))))) (pss_one (ps_ret pe_bl)) pss_nil)
    (pss_one (ps_ret (pe_callB (cr_all rfl) (by rfl) mAll (by decide +kernel) (pa_cons (pe_lc (own := [("sign", 1)]) (g := gName 1) (tt := tYes) rfl nd (pi_str (pv 0)) (blkOk_by (own := [("sign", 1)]) (N := ["text", "sign"]) (sc := defScope sSpelled) (by decide +kernel)) (fun _ _ _ _ _ => pg_name (i := 1) nd rfl (Or.inl rfl)) (fun _ _ _ _ _ => pts_nil) (fun _ _ _ _ _ => pe_cmpR op_in_sign (pv 1) (pe_glob (v := .str wordSigns) (by rfl) mW ⟨_, rfl⟩) (by rfl))) pa_nil))))), ?_⟩
  have end0 : spelled x = false → Q (.bl false) H := fun e => by
    have := q H (fun _ _ h => h)
    rwa [e] at this
  refine ⟨_, rfl, x, rfl, Nat.le_trans few (by decide), _, _, rfl, rfl, _, rfl, ite2 (fun c1 => ⟨_, _, rfl, rfl, _, rfl, ite2 (fun c2 => ?_) fun c2 => ?_⟩) fun c1 => ⟨_, rfl, ?_⟩⟩
  · -- too long
    refine end0 ?_
    have z : ¬ x.length ≤ 30 := fun z => by
      rw [decide_eq_true (show (x.length : Int) ≤ 30 by omega)] at c2
      exact absurd c2 (by decide)
    unfold spelled
    rw [decide_eq_false z, Bool.and_false, Bool.false_and, Bool.false_and]
  · have l1 : 1 ≤ x.length := by
      have := of_decide_eq_true c1
      omega
    have l2 : x.length ≤ 30 := by
      by_cases z : (x.length : Int) ≤ 30
      · omega
      · rw [decide_eq_false z] at c2
        exact absurd rfl c2
    obtain ⟨c, r, hx⟩ : ∃ c r, x.cps.toList = c :: r := by
      cases e : x.cps.toList with
      | nil =>
        have : x.length = 0 := by
          show x.cps.size = 0
          rw [← Array.length_toList, e]
          rfl
        omega
      | cons c r => exact ⟨c, r, rfl⟩
    have sp : spelled x = (decide (c ∈ letters.cps.toList) && x.cps.toList.all fun c => decide (c ∈ wordSigns.cps.toList)) := by
      unfold spelled
      rw [decide_eq_true l1, decide_eq_true l2, hx]
      rfl
    refine ⟨_, rfl, x, 0, c, rfl, rfl, Nat.le_trans few (by decide), by rw [hx]; exact atI_nat (j := 0) rfl, c, letters, rfl, rfl, _, rfl, ite2 (fun c3 => ?_) fun c3 => ?_⟩
    · refine end0 ?_
      rw [sp]
      cases h : decide (c ∈ letters.cps.toList) with
      | true =>
        rw [h] at c3
        exact absurd c3 (by decide)
      | false => rfl
    · have h : decide (c ∈ letters.cps.toList) = true := by
        cases h : decide (c ∈ letters.cps.toList) with
        | true => rfl
        | false =>
          rw [h] at c3
          exact absurd rfl c3
      rw [h, Bool.true_and] at sp
      refine ⟨_, rfl, x, rfl, fun D nD => lc_bools (walk_str (z := x)) (x.cps.toList.map fun c => decide (c ∈ wordSigns.cps.toList)) (by rw [List.length_map, Array.length_toList]) (Nat.lt_of_le_of_lt (show x.cps.size ≤ 1000 from few) (by decide)) nD (fun _ _ => trivial) (fun _ _ _ _ y => by rw [y.1]; exact fun _ _ h => h)
        (fun i v H2 H3 b hi hb s1 y R hR => ?_) (fun H2 s2 e2 => ?_) (fun _ _ _ _ _ m h => m _ _ h)⟩
      · obtain ⟨rfl, d, hd, rfl⟩ := y
        rw [List.getElem?_map, Array.getElem?_toList, hd] at hb
        cases hb
        exact ⟨rfl, _, rfl, d, wordSigns, rfl, rfl, hR _ fun _ _ h => h⟩
      · refine ⟨D, _, rfl, SqL.of e2, ?_⟩
        have e : (List.map (fun c => decide (c ∈ wordSigns.cps.toList)) x.cps.toList).any id = true ∨ True := .inr trivial
        rw [List.all_map]
        have := q H2 s2
        rw [sp] at this
        exact this
  · -- empty
    refine end0 ?_
    have z : ¬ 1 ≤ x.length := fun z => c1 (decide_eq_true (by omega))
    unfold spelled
    rw [decide_eq_false z]
    rfl
def spIsWord (K : PySem.W.Frag) : Sp := fun vs H Q _ => ∃ v, vs = [v] ∧ ((∃ x : Str, v = .str x ∧ x.length ≤ 1000 ∧ ∀ H', Same H H' → Q (.bl (wordB x)) H') ∨ ((∃ t, TyX K H v t ∧ PySem.W.kitOne K t (.type "str") = some false) ∧ Q (.bl false) H))
theorem ok_isWord {f fs r : Addr} {fd fds : FuncData} (F : Fun K "is_word" "is_word" sIsWord f fd) (GS : FnOk P w K mg base CX0 1 fs fds ["text"] spSpelled) (bS : Binds K fds ["text"] []) (kS : PySem.W.keepIn K (.ref fs) = true) (mS : mg "is_spelled" = some (.ref fs))
    (mI : mg "isinstance" = none) (mStr : mg "str" = none) (mR : mg "RESERVED" = some (.ref r)) (eR : ∀ H, SqT K H r (reserved.map V.str)) : FnOk P w K mg base CX0 2 f fd ["value"] (spIsWord K) := by
  refine F.ok scIsWord (fun vs H Q E h => ?_) (fun cdv A outer s H vs Q E hr h => ?_)
  · obtain ⟨x, rfl, _⟩ := h
    rfl
  obtain ⟨v, rfl, h⟩ := h
  refine ⟨_, pss_one (ps_ret (pe_and (pe_callB call_isi (by rfl) mI (by decide +kernel) (pa_cons (pv 0) (pa_cons (pe_bltn (v := .ty "str") (by rfl) mStr (by decide +kernel) rfl) pa_nil))) (pe_and (pe_call GS (hr.mono (by decide)) rfl mS kS bS .nil pass0 (pa_cons (pv 0) pa_nil)) (pe_one (pe_cmpR op_notIn_seq (pv 0) (pe_glob (v := .ref r) (by rfl) mR rfl) (by rfl)))))), ?_⟩
  rcases h with ⟨x, rfl, few, q⟩ | ⟨⟨t, ty, kt⟩, q⟩
  · refine ⟨_, rfl, .str x, .ty "str", _, _, true, rfl, .ty "str", .base (.str x), kit_ty (by decide +kernel), true, rfl, ?_⟩
    refine ⟨_, rfl, x, rfl, few, fun H' sm => ⟨_, rfl, ite2 (fun c => ?_) fun c => ?_⟩⟩
    · refine ⟨_, rfl, r, _, rfl, .inr (eR _), rfl, ?_, ?_⟩
      · decide
      · have := q H' sm
        unfold wordB at this
        rw [c, Bool.true_and] at this
        exact this
    · have := q H' sm
      unfold wordB at this
      rw [Bool.eq_false_iff.mpr c, Bool.false_and] at this
      exact this
  · exact ⟨_, rfl, v, .ty "str", _, _, false, rfl, .ty "str", ty, kt, false, rfl, q⟩
end
end DQ

set_option Elab.async false
set_option linter.all false
set_option maxRecDepth 100000
set_option maxHeartbeats 4000000
namespace DQ
open PySem PySem.Spec PyProof.Rows L2
/-! ### data on the heap -/
theorem Same.seqT {K : PySem.W.Frag} {H H' : Hp} {a : Addr} {xs : List V} (e : Same H H') (h : SqT K H a xs) : SqT K H' a xs := by
  rcases h with (h | ⟨o, h⟩) | h
  · exact .inl (.inl (e _ _ h))
  · exact .inl (.inr ⟨o, e _ _ h⟩)
  · exact .inr h
mutual
theorem dp_same {K : PySem.W.Frag} {H H' : Hp} (e : Same H H') : ∀ (d : PyData) (v : V), Dp K H v d → Dp K H' v d
  | .none, _, h => by cases h; exact .non
  | .bool b, _, h => by cases h; exact .bl b
  | .int i, _, h => by cases h; exact .int i
  | .str x, _, h => by cases h; exact .str x
  | .list ds, _, h => by
    cases h with
    | lst h a => exact .lst (L2.Same.seq e h) (dpAll_same e ds _ a)
  | .tuple ds, _, h => by
    cases h with
    | tup h a => exact .tup (DQ.Same.seqT e h) (dpAll_same e ds _ a)
  | .dict _, _, h => by
    cases h with
    | dct h => exact .dct (e _ _ h)
theorem dpAll_same {K : PySem.W.Frag} {H H' : Hp} (e : Same H H') : ∀ (ds : List PyData) (vs : List V), DpAll K H vs ds → DpAll K H' vs ds
  | [], _, h => by cases h; exact .nil
  | d :: ds, _, h => by
    cases h with
    | cons a b => exact .cons (dp_same e d _ a) (dpAll_same e ds _ b)
end
theorem dpAll_len {K : PySem.W.Frag} {H : Hp} : ∀ {vs : List V} {ds : List PyData}, DpAll K H vs ds → vs.length = ds.length
  | _, _, .nil => rfl
  | _, _, .cons _ t => congrArg Nat.succ (dpAll_len t)
theorem dpAll_at {K : PySem.W.Frag} {H : Hp} : ∀ {vs : List V} {ds : List PyData} {i : Nat} {v : V}, DpAll K H vs ds → vs[i]? = some v → ∃ d, ds[i]? = some d ∧ Dp K H v d
  | _, _, _, _, .nil, h => by simp at h
  | _, _, 0, _, .cons a _, h => by
    cases h
    exact ⟨_, rfl, a⟩
  | _, _, i + 1, _, .cons _ t, h => dpAll_at (i := i) t (by simpa using h)
theorem dpAll_get {K : PySem.W.Frag} {H : Hp} {vs : List V} {ds : List PyData} {i : Nat} {v : V} {d : PyData} (a : DpAll K H vs ds) (h : vs[i]? = some v) (hd : ds[i]? = some d) : Dp K H v d := by
  obtain ⟨e, he, q⟩ := dpAll_at a h
  rw [hd] at he
  cases he
  exact q
/-- the name of its type -/
def tyN : PyData → String
  | .none => "NoneType"
  | .bool _ => "bool"
  | .int _ => "int"
  | .str _ => "str"
  | .list _ => "list"
  | .tuple _ => "tuple"
  | .dict _ => "dict"
theorem dp_ty {K : PySem.W.Frag} {H : Hp} {v : V} {d : PyData} (h : Dp K H v d) : TyX K H v (.type (tyN d)) := by
  cases h with
  | non => exact .base .non
  | bl b => exact .base (.bl b)
  | int i => exact .base (.int i)
  | str x => exact .base (.str x)
  | lst h _ =>
    rcases h with (h | ⟨o, h⟩) | ⟨o, _, _, h, c, _⟩
    · exact .base (.lst h)
    · exact .base (.frz h)
    · exact .kList h c
  | tup h _ =>
    rcases h with (h | ⟨o, h⟩) | ⟨o, _, _, h, c, _⟩
    · exact .base (.tup h)
    · exact .fTuple h
    · exact .kTuple h c
  | dct h => exact .base (.dK h)
/-- isinstance(d, T) -/
def isTN (T n : String) : Bool := n == T || (n == "bool" && T == "int")
def isT (T : String) (d : PyData) : Bool := isTN T (tyN d)
def tyNames : List String := ["NoneType", "bool", "int", "str", "list", "tuple", "dict"]
theorem kit_names : ∀ T ∈ ["int", "bool", "str", "list", "tuple"], ∀ n ∈ tyNames, kitB n T = some (isTN T n) := by decide +kernel
theorem tyN_mem : ∀ d : PyData, tyN d ∈ tyNames
  | .none => by unfold tyN tyNames; simp
  | .bool _ => by unfold tyN tyNames; simp
  | .int _ => by unfold tyN tyNames; simp
  | .str _ => by unfold tyN tyNames; simp
  | .list _ => by unfold tyN tyNames; simp
  | .tuple _ => by unfold tyN tyNames; simp
  | .dict _ => by unfold tyN tyNames; simp
theorem kit_data {K : PySem.W.Frag} {T : String} (hT : T ∈ ["int", "bool", "str", "list", "tuple"]) (d : PyData) : PySem.W.kitOne K (.type (tyN d)) (.type T) = some (isT T d) :=
  kit_ty (kit_names T hT _ (tyN_mem d))
/-- x < y of alike data -/
def rLtD (K : PySem.W.Frag) : R2 := fun x y H Q => ∃ d e, Dp K H x d ∧ Dp K H y e ∧ PySem.W.alike d e = true ∧ d ≠ .none ∧ d.depth ≤ 8 ∧ Q (.bl (PySem.W.dataLt d e)) H
theorem op_ltD {X : Cx} (hu : X.A.units + 64 < cLine) : OpR X (compareOp .Lt) (rLtD X.K) := by
  intro pins s σ H x y v u Q I rx ry h
  obtain ⟨d, e, hd, he, al, nn, dep, q⟩ := h
  obtain ⟨as, r1⟩ := Dp.reads I d x v hd rx
  obtain ⟨bs, r2⟩ := Dp.reads I e y u he ry
  exact PySem.W.rcLt_alike d e X.A s v u as bs r1 r2 al nn (by have := Nat.min_le_left d.depth e.depth; omega) X.prog X.w _ _ ⟨.bl _, H, I, rfl, q⟩
end DQ

set_option Elab.async false
set_option linter.all false
set_option maxRecDepth 100000
set_option maxHeartbeats 1000000
namespace DQ
open PySem PySem.Spec PyProof.Rows
open L2 (Hp V VK XK R2 OpR SqL SqT Inv RelV Vals HOk Cx EP CallR)
/-! ### repr of data, empty dicts among it -/
mutual
theorem dp_shown {X : Cx} {pins : List (Addr × Obj)} {σ : L2.St} {H : Hp} {s : Shared} (I : Inv X pins σ H s) : ∀ (d : PyData) (v : V) (u : Value), Dp X.K H v d → RelV v u → d.showable = true → d.shown.length ≤ sizeLine →
    ∃ bs, ReadAtMost s.heap d.depth bs ∧ ReprK X.prog X.w bs s.heap d.depth u d.shown
  | .none, v, u, h, r, sh, sz => (Dp.reads I .none v u h r).elim fun as rd => ReprK.of_reads rd sh (fun z => by simp [PyData.hasDict] at z) sz
  | .bool b, v, u, h, r, sh, sz => (Dp.reads I (.bool b) v u h r).elim fun as rd => ReprK.of_reads rd sh (fun z => by simp [PyData.hasDict] at z) sz
  | .int i, v, u, h, r, sh, sz => (Dp.reads I (.int i) v u h r).elim fun as rd => ReprK.of_reads rd sh (fun z => by simp [PyData.hasDict] at z) sz
  | .str x, v, u, h, r, sh, sz => (Dp.reads I (.str x) v u h r).elim fun as rd => ReprK.of_reads rd sh (fun z => by simp [PyData.hasDict] at z) sz
  | .list ds, v, u, h, r, sh, sz => by
    obtain ⟨as, rd⟩ := Dp.reads I (.list ds) v u h r
    cases h with
    | lst hs ha =>
      obtain rfl : u = Value.ref _ := r
      obtain ⟨its, rv, ⟨o, n, ho, hc, _, hd⟩, _⟩ := I.list hs
      have sz' : (listText (PyData.shownAll ds)).length ≤ sizeLine := by simpa only [PyData.shown] using sz
      obtain ⟨bs, hb, hk⟩ := dpAll_shown I ds _ its ha rv (by simpa only [PyData.showable] using sh) fun t ht => Nat.le_trans (listText_mem_le ht) sz'
      have hna := not_mem_of_deeper rd (by simp only [PyData.depth]; omega) hb
      refine ⟨_ :: bs, ReadAtMost.cons rd (by simp only [PyData.depth]; omega) hb, ?_⟩
      simp only [PyData.depth, PyData.shown]
      cases its with
      | nil =>
        cases rv
        cases ha
        simp only [PyData.shownAll, listText_nil]
        exact ReprK.listEmpty ho hc hd
      | cons y ys => exact ReprK.list ho hc hd hna (by simpa using hk.length_eq) fun i z e => hk.item i z (by simpa using e)
  | .tuple ds, v, u, h, r, sh, sz => by
    obtain ⟨as, rd⟩ := Dp.reads I (.tuple ds) v u h r
    cases h with
    | tup hs ha =>
      obtain rfl : u = Value.ref _ := r
      obtain ⟨its, rv, ⟨o, ho, hc, n, hd⟩, _⟩ := I.tuple hs
      have sz' : (tupleText (PyData.shownAll ds)).length ≤ sizeLine := by simpa only [PyData.shown] using sz
      obtain ⟨bs, hb, hk⟩ := dpAll_shown I ds _ its ha rv (by simpa only [PyData.showable] using sh) fun t ht => Nat.le_trans (tupleText_mem_le ht) sz'
      have hna := not_mem_of_deeper rd (by simp only [PyData.depth]; omega) hb
      refine ⟨_ :: bs, ReadAtMost.cons rd (by simp only [PyData.depth]; omega) hb, ?_⟩
      simp only [PyData.depth, PyData.shown]
      exact ReprK.tuple ho hc hd hna (by simpa using hk)
  | .dict kvs, v, u, h, r, sh, sz => by
    obtain ⟨as, rd⟩ := Dp.reads I (.dict kvs) v u h r
    cases h with
    | dct hs =>
      obtain rfl : u = Value.ref _ := r
      obtain ⟨_, hsys, vs, kv, o, es, ep, ho, ex, hd, _, ps, _⟩ := L2.dk_of I.hok hs
      have e0 : vs = [] := by
        cases kv
        rfl
      subst e0
      have e1 : es.toList = [] := List.length_eq_zero_iff.mp (by simpa using PySem.Pairs.length ps)
      refine ⟨[_], ReadAtMost.cons (bs := []) rd (n := 0) (Nat.zero_le _) (fun b hb => nomatch hb), ?_⟩
      simp only [PyData.depth, PyData.depthKv, PyData.shown, PyData.shownKv]
      exact ReprK.dict ho ex.1 hd hsys (by simp) (by rw [e1]; exact .nil)
theorem dpAll_shown {X : Cx} {pins : List (Addr × Obj)} {σ : L2.St} {H : Hp} {s : Shared} (I : Inv X pins σ H s) : ∀ (ds : List PyData) (vs : List V) (us : List Value), DpAll X.K H vs ds → Vals vs us → PyData.showableAll ds = true → (∀ t ∈ PyData.shownAll ds, t.length ≤ sizeLine) →
    ∃ bs, ReadAtMost s.heap (PyData.depthAll ds) bs ∧ ReprAllK X.prog X.w bs s.heap (PyData.depthAll ds) us (PyData.shownAll ds)
  | [], _, _, h, r, _, _ => by
    cases h
    cases r
    exact ⟨[], (fun _ h => nomatch h), by simp only [PyData.shownAll]; exact .nil⟩
  | d :: ds, _, _, h, r, sh, sz => by
    cases h with
    | cons h1 h2 =>
      cases r with
      | cons r1 r2 =>
        have sh' : d.showable = true ∧ PyData.showableAll ds = true := by simpa [PyData.showableAll] using sh
        obtain ⟨b1, hb1, k1⟩ := dp_shown I d _ _ h1 r1 sh'.1 (sz _ (by simp only [PyData.shownAll]; exact List.mem_cons_self ..))
        obtain ⟨b2, hb2, k2⟩ := dpAll_shown I ds _ _ h2 r2 sh'.2 fun t ht => sz t (by simp only [PyData.shownAll]; exact List.mem_cons_of_mem _ ht)
        have m1 : PyData.depth d ≤ PyData.depthAll (d :: ds) := by simp only [PyData.depthAll]; exact Nat.le_max_left _ _
        have m2 : PyData.depthAll ds ≤ PyData.depthAll (d :: ds) := by simp only [PyData.depthAll]; exact Nat.le_max_right _ _
        refine ⟨b1 ++ b2, (hb1.mono m1).append (hb2.mono m2), ?_⟩
        simp only [PyData.shownAll]
        exact .cons ((k1.more fun b hb => List.mem_append_left _ hb).level_le m1) (k2.more_le (fun b hb => List.mem_append_right _ hb) m2)
end
/-- what repr wants of data, dicts among it -/
structure ShowsZ (d : PyData) : Prop where
  sh : d.showable = true
  dep : d.depth ≤ 64
  sz : d.shown.length ≤ sizeLine
/-- repr of a tuple of data; the guards around are known to be none -/
def rReprT (K : PySem.W.Frag) : List V → Hp → VK → Prop := fun xs H Q => ∃ (a : Addr) (ds : List PyData), xs = [.ref a] ∧ Dp K H (.ref a) (.tuple ds) ∧ ShowsZ (.tuple ds) ∧ Q (.str (PyData.tuple ds).shown) H
theorem call_reprT {X : Cx} (hu : X.A.units + 65 < cLine) (hg : X.A.guards = some []) : CallR X (.builtin "repr") (rReprT X.K) := by
  intro pins s σ H xs us Q I r h
  obtain ⟨a, ds, rfl, hd, ⟨sh, dep, sz⟩, q⟩ := h
  obtain ⟨u, rfl, ru⟩ := L2.vals1 r
  obtain ⟨as, rd⟩ := Dp.reads I (.tuple ds) _ _ hd ru
  cases hd with
  | tup hs ha =>
    obtain rfl : u = Value.ref a := ru
    obtain ⟨its, rv, ⟨o, ho, hc, n, hd⟩, _⟩ := I.tuple hs
    have sz' : (tupleText (PyData.shownAll ds)).length ≤ sizeLine := by simpa only [PyData.shown] using sz
    obtain ⟨bs, hb, hk⟩ := dpAll_shown I ds _ its ha rv (by simpa only [PyData.showable] using sh) fun t ht => Nat.le_trans (tupleText_mem_le ht) sz'
    have hna := not_mem_of_deeper rd (by simp only [PyData.depth]; omega) hb
    have dp : PyData.depthAll ds + 1 ≤ 64 := by simpa only [PyData.depth] using dep
    refine call_repr_slot (by omega) ⟨o, ho, hc⟩ F.slot_tuple_repr (call_tuple_reprK ho hc hd hna (by simpa using hk) hg (fun b _ => Clear.nil b) (by show X.A.units + 1 + _ < _; omega) (fun _ _ e => e) (fun h' u tk k => ⟨_, _, rfl, ?_⟩) sz')
    simp only [PyData.shown] at q
    exact ⟨.str _, H, I.kept fun b o e => k b o e, ⟨u, rfl⟩, q⟩
end DQ

set_option Elab.async false
set_option linter.all false
set_option maxRecDepth 100000
set_option maxHeartbeats 2000000
namespace DQ
open PySem PySem.Spec PyProof.Rows L2
/-- repr of data that stands as an object; the guards around are known to be none -/
def rReprD (K : PySem.W.Frag) : List V → Hp → VK → Prop := fun xs H Q => ∃ (a : Addr) (d : PyData), xs = [.ref a] ∧ Dp K H (.ref a) d ∧ d.showable = true ∧ d.hasDict = false ∧ d.depth ≤ 64 ∧ d.shown.length ≤ sizeLine ∧ Q (.str d.shown) H
theorem call_reprD {X : Cx} (hu : X.A.units + 65 < cLine) (hg : X.A.guards = some []) : CallR X (.builtin "repr") (rReprD X.K) := by
  intro pins s σ H xs us Q I r h
  obtain ⟨a, d, rfl, hd, sh, nd, dep, sz, q⟩ := h
  obtain ⟨u, rfl, ru⟩ := vals1 r
  obtain rfl : u = Value.ref a := ru
  obtain ⟨as, rd⟩ := Dp.reads I d _ _ hd rfl
  refine repr_of_reads' rd sh (fun h => by rw [nd] at h; exact nomatch h) hg (by omega) (fun _ _ e => e) (fun h' u tk k => ?_) sz
  exact ⟨.str d.shown, H, I.kept fun b o e => k b o e, ⟨u, rfl⟩, q⟩
end DQ
namespace DQ
open PySem PySem.Spec PyProof.Rows L2
/-! ### defs that are called where no guard is around (repr wants that) -/
structure FnG (P : Program) (w : World) (K : PySem.W.Frag) (mg : Str → Option Value) (base : Heap) (CX : CXT) (k : Nat) (f : Addr) (fd : FuncData) (ps : List Str) (sp : Sp) : Prop where
  len : ∀ vs H Q E, sp vs H Q E → vs.length = ps.length
  run : ∀ (A : Around) (outer : List Env) (s : Shared) (H : Hp) (args : Args) (us : List Value) (vs : List V) (Q : VK) (E : XK), Room k A → A.guards = some [] → Env0 P w K mg base A outer s H → BindsTo s fd args (ps.zip us) → Vals vs us → sp vs H Q E →
    codeAny (model P w) A (.call (.ref f) args) (CR CX outer P w H s Q E) s
theorem FnG.of {P : Program} {w : World} {K : PySem.W.Frag} {mg : Str → Option Value} {base : Heap} {CX : CXT} {k : Nat} {f : Addr} {fd : FuncData} {ps : List Str} {sp : Sp} (F : FnOk P w K mg base CX k f fd ps sp) : FnG P w K mg base CX k f fd ps sp :=
  ⟨F.len, fun A outer s H args us vs Q E hr _ => F.run A outer s H args us vs Q E hr⟩
theorem fnG_of {CX : CXT} {P : Program} {w : World} {K : PySem.W.Frag} {mg : Str → Option Value} {base : Heap} {k : Nat} {f : Addr} {name qual : Str} {params : Arguments} {body : List Stmt} {scope : Scope} {dV kV doc pm cdv ct oc : Value} {an od : Option Addr}
    {osl : Array (Option Value)} {N ps : List Str} {sp : Sp} (lk : K.lookup f = some ⟨oc, od, .func (PySem.W.fnOf name qual params body scope dV kV doc pm an cdv ct), osl⟩) (hcd : PySem.W.codeIn K cdv qual = true) (S : FnScope N ps scope)
    (len : ∀ vs H Q E, sp vs H Q E → vs.length = ps.length)
    (hbody : ∀ (A : Around) (outer : List Env) (s : Shared) (H : Hp) (vs : List V) (Q : VK) (E : XK), Room k (A.deeper (envOfC qual scope s.heap.objs.size f cdv)) → A.guards = some [] → sp vs H Q E →
      ∃ t, PSs (cxOf CX P w K mg base N qual scope f cdv A outer s H E) body t ∧ t { nx := fun _ H' => Q .non H', rt := Q } (L2.start N vs) H) :
    FnG P w K mg base CX (k + 1) f (PySem.W.fnOf name qual params body scope dV kV doc pm an cdv ct) ps sp := by
  refine ⟨len, fun A outer s H args us vs Q E hr hg e0 hb r hsp => ?_⟩
  have hl := len _ _ _ _ hsp
  have KX : K.In s.heap := e0.mod.kin.keeps fun b o e => (e0.bs b o e).1
  have lim : s.heap.NoLimit := e0.mod.nolimit.keeps fun b o e => (e0.bs b o e).1
  have hkind : ∀ y ∈ ps.zip us, scope.names.lookup y.1 = some .local ∨ (scope.names.lookup y.1 = some .cell ∧ ((cellsFrom (s.heap.objs.size + 1) scope.names []).lookup y.1).isSome = true) := fun ⟨n, v⟩ hy => by
    rcases S.par n (List.of_mem_zip hy).1 with q | q
    · exact .inl q
    · exact .inr ⟨q, PySem.W.cellsFrom_some _ _ _ (.inl q)⟩
  refine codeAny_call_function hr.depth (KX _ _ lk) rfl S.co S.gen rfl (PySem.W.codeRec_of KX hcd) (hb _ _ _ _ ?_)
  refine wpAny_newFunctionEnv_cells S.kind hkind fun env he s1 x => ?_
  subst he
  refine ⟨lim.keeps x.toInCall.keep, codeAny_func ?_⟩
  obtain ⟨t, ht, hq⟩ := hbody A outer s H vs Q E (hr.deeper _) hg hsp
  have I : Inv (cxOf CX P w K mg base N qual scope f cdv A outer s H E) [] (L2.start N vs) H s1 := inv_start S hr.hd e0 hl r x
  refine wpAny_mono (ht.run [] s1 (L2.start N vs) H _ I hq) (fun fl s' hs => ?_) fun e s' hs => hs
  have fin : ∀ {σ' : L2.St} {H' : Hp} {v : V} {u : Value}, Inv (cxOf CX P w K mg base N qual scope f cdv A outer s H E) [] σ' H' s' → RelV v u → Q v H' → CE outer P w H s Q u s' :=
    fun {σ' H' v u} J rv q => ⟨v, H', J.os, J.bare, J.base, J.hok, rv, q⟩
  cases fl with
  | ret u =>
    obtain ⟨v, σ', H', J, rv, q⟩ := hs
    exact fin J rv q
  | next =>
    obtain ⟨σ', H', J, q⟩ := hs
    exact fin (v := V.non) (u := Value.none) J rfl q
  | brk =>
    obtain ⟨_, _, _, q⟩ := hs
    exact False.elim q
  | cont =>
    obtain ⟨_, _, _, q⟩ := hs
    exact False.elim q
section
variable {P : Program} {w : World} {K : PySem.W.Frag} {mg : Str → Option Value} {base : Heap}
theorem fun_okG {CX : CXT} {x qual : Str} {st : Stmt} {f : Addr} {fd : FuncData} {N ps : List Str} {k : Nat} {sp : Sp} (F : Fun K x qual st f fd) (S : FnScope N ps (defScope st)) (len : ∀ vs H Q E, sp vs H Q E → vs.length = ps.length)
    (hbody : ∀ (cdv : Value) (A : Around) (outer : List Env) (s : Shared) (H : Hp) (vs : List V) (Q : VK) (E : XK), Room k (A.deeper (envOfC qual (defScope st) s.heap.objs.size f cdv)) → A.guards = some [] → sp vs H Q E →
      ∃ t, PSs (cxOf CX P w K mg base N qual (defScope st) f cdv A outer s H E) (defBody st) t ∧ t { nx := fun _ H' => Q .non H', rt := Q } (L2.start N vs) H) : FnG P w K mg base CX (k + 1) f fd ps sp := by
  obtain ⟨oc, od, kV, doc, pm, an, cdv, ct, osl, rfl, lk, hcd⟩ := F.ex
  exact fnG_of lk hcd S len fun A outer s H vs Q E hr hg hsp => hbody cdv A outer s H vs Q E hr hg hsp
end
section
variable {X : Cx} {CX : CXT} {k : Nat} {f : Addr} {fd : FuncData} {ps : List Str} {sp : Sp} {dvs : List V} {ds : List Value} {E : XK} {x : Str} {p pos : Pos} {e : Expr} {es : List Expr} {t : TA}
theorem run_fnG {pins : List (Addr × Obj)} {σ : L2.St} {H : Hp} {s : Shared} {Q : VK} {us : List Value} {vs : List V} (F : FnG X.prog X.w X.K X.mg X.base CX k f fd ps sp) (hr : Room k X.A) (hG : X.A.guards = some []) (hb : Binds X.K fd ps ds) (hd : Vals dvs ds) (hx : Passes CX X E)
    (I : Inv X pins σ H s) (r : Vals vs us) (h : sp (vs ++ dvs) H Q E) : wpAny (model X.prog X.w) X.A (call (.ref f) us) (EP X pins σ Q) X.xe s := by
  have r2 : Vals (vs ++ dvs) (us ++ ds) := r.append hd
  have hl : (us ++ ds).length = ps.length := by rw [← r2.length]; exact F.len _ _ _ _ h
  refine wpAny_call (codeAny_mono (F.run X.A X.stack s H ⟨us, []⟩ (us ++ ds) (vs ++ dvs) Q E hr hG I.env0 (hb s us I.kIn hl) r2 h) fun r s' hq => ?_)
  cases r with
  | error e => exact hx pins σ H s e s' I hq
  | ok fl =>
    cases fl with
    | ret u => exact I.after hq
    | next => exact False.elim hq
    | brk => exact False.elim hq
    | cont => exact False.elim hq
theorem pe_callGd (F : FnG X.prog X.w X.K X.mg X.base CX k f fd ps sp) (hr : Room k X.A) (hG : X.A.guards = some []) (hg : Gl X x) (hm : X.mg x = some (.ref f)) (hk : PySem.W.keepIn X.K (.ref f) = true) (hb : Binds X.K fd ps ds) (hd : Vals dvs ds) (hx : Passes CX X E)
    (ha : PA X (e :: es) t) (hdb : (x == ("__debug__" : Str)) = false := by decide) (he : starEach (e :: es) X.env = (false, eval e X.env) :: starEach es X.env := by rfl) (hpl : (backTo pos (starEach es X.env)).any (·.1) = false := by rfl) :
    PE X (.Call (.Name x p) (e :: es) [] pos) (tCall sp dvs E t) := by
  refine ⟨fun pins s σ H Q I h => ?_⟩
  refine wpAny_Call_Name_kw (ld_glob I hg hm ?_ hdb)
  refine PySem.W.callWith_K (h₀ := X.base) I.ok.mod.kin hk (thn (ha.run pos pins s σ H _ I h) fun us s1 ⟨vs, H1, I1, r, q⟩ => ⟨I1.kIn, ?_⟩) he hpl
  exact run_fnG F hr hG hb hd hx I1 r q
end
end DQ
namespace DQ
open PySem PySem.Spec PyProof.Rows L2
/-- what repr wants of data -/
structure Shows (d : PyData) : Prop where
  sh : d.showable = true
  nod : d.hasDict = false
  dep : d.depth ≤ 64
  sz : d.shown.length ≤ sizeLine
/-- repr of any data; the guards around are known to be none -/
def rReprV (K : PySem.W.Frag) : List V → Hp → VK → Prop := fun xs H Q => ∃ (v : V) (d : PyData), xs = [v] ∧ Dp K H v d ∧ Shows d ∧ Q (.str d.shown) H
theorem call_reprV {X : Cx} (hu : X.A.units + 65 < cLine) (hg : X.A.guards = some []) : CallR X (.builtin "repr") (rReprV X.K) := by
  intro pins s σ H xs us Q I r h
  obtain ⟨v, d, rfl, hd, ⟨sh, nod, dep, sz⟩, q⟩ := h
  cases hd with
  | non =>
    obtain ⟨u, rfl, ru⟩ := vals1 r
    obtain rfl : u = Value.none := ru
    exact PySem.P.repr_of_none ⟨.str _, H, I.tok _, ⟨_, rfl⟩, q⟩
  | bl b =>
    obtain ⟨u, rfl, ru⟩ := vals1 r
    obtain rfl : u = Value.bool b := ru
    exact PySem.P.repr_of_bool ⟨.str _, H, I.tok _, ⟨_, rfl⟩, q⟩
  | int i =>
    obtain ⟨u, rfl, t, rfl⟩ := vals1 r
    exact PySem.P.repr_of_int (by simpa [PyData.showable] using sh) ⟨.str _, H, I.tok _, ⟨_, rfl⟩, q⟩
  | str x =>
    obtain ⟨u, rfl, t, rfl⟩ := vals1 r
    exact PySem.P.repr_of_str ⟨.str _, H, I.tok _, ⟨_, rfl⟩, q⟩ sz
  | lst hs ha => exact call_reprD hu hg pins s σ H _ us Q I r ⟨_, _, rfl, .lst hs ha, sh, nod, dep, sz, q⟩
  | tup hs ha => exact call_reprD hu hg pins s σ H _ us Q I r ⟨_, _, rfl, .tup hs ha, sh, nod, dep, sz, q⟩
  | dct h => simp [PyData.hasDict] at nod
end DQ

set_option Elab.async false
set_option linter.all false
set_option maxRecDepth 100000
set_option maxHeartbeats 4000000
namespace DQ
open PySem PySem.Spec PyProof.Rows L2
abbrev sWhole : Stmt := topS 19
abbrev sBetween : Stmt := topS 20
abbrev sNumber : Stmt := topS 21
abbrev sWords : Stmt := topS 22
abbrev sMarks : Stmt := topS 23
abbrev sColumns : Stmt := topS 24
abbrev sNumbers : Stmt := topS 25
theorem scWhole : FnScope ["value"] ["value"] (defScope sWhole) := ⟨rfl, rfl, rfl, by decide +kernel, rfl, by decide +kernel, by decide +kernel⟩
theorem scBetween : FnScope ["value", "least", "most"] ["value", "least", "most"] (defScope sBetween) := ⟨rfl, rfl, rfl, by decide +kernel, rfl, by decide +kernel, by decide +kernel⟩
theorem scNumber : FnScope ["value"] ["value"] (defScope sNumber) := ⟨rfl, rfl, rfl, by decide +kernel, rfl, by decide +kernel, by decide +kernel⟩
theorem scWords : FnScope ["value", "most", "word"] ["value", "most"] (defScope sWords) := ⟨rfl, rfl, rfl, by decide +kernel, rfl, by decide +kernel, by decide +kernel⟩
theorem scMarks : FnScope ["value"] ["value"] (defScope sMarks) := ⟨rfl, rfl, rfl, by decide +kernel, rfl, by decide +kernel, by decide +kernel⟩
theorem scColumns : FnScope ["marks", "value", "word"] ["marks", "value"] (defScope sColumns) := ⟨rfl, rfl, rfl, by decide +kernel, rfl, by decide +kernel, by decide +kernel⟩
theorem scNumbers : FnScope ["value", "item"] ["value"] (defScope sNumbers) := ⟨rfl, rfl, rfl, by decide +kernel, rfl, by decide +kernel, by decide +kernel⟩
def numD : PyData → Bool
  | .int i => decide (0 ≤ i) && decide (i ≤ 1000000000)
  | _ => false
def numsD : PyData → Bool
  | .list ds => ds.all numD
  | _ => false
def wordD : PyData → Bool
  | .str x => wordB x
  | _ => false
def textD : PyData → Option Str
  | .str x => some x
  | _ => none
def texts (ds : List PyData) : List Str := ds.filterMap textD
def wordsD (m : Nat) : PyData → Bool
  | .list ds => decide (ds.length ≤ m) && (ds.all wordD && decide (differ (texts ds) ds.length = ds.length))
  | _ => false
/-- no text of more than 1000 signs -/
def Short (d : PyData) : Prop := ∀ x, d = .str x → x.length ≤ 1000
/-- a list is of at most 10000 items, no text among them of more than 1000 signs -/
def Fits (d : PyData) : Prop := ∀ ds, d = .list ds → ds.length ≤ 10000 ∧ ∀ e ∈ ds, Short e
theorem texts_all {K : PySem.W.Frag} {H : Hp} : ∀ {vs : List V} {ds : List PyData}, DpAll K H vs ds → ds.all wordD = true → vs = (texts ds).map V.str ∧ (texts ds).length = ds.length
  | _, _, .nil, _ => ⟨rfl, rfl⟩
  | v :: vs, d :: ds, .cons a t, h => by
    rw [List.all_cons, Bool.and_eq_true] at h
    obtain ⟨h1, h2⟩ := h
    obtain ⟨e, l⟩ := texts_all t h2
    cases a with
    | str x =>
      unfold texts at e l ⊢
      rw [List.filterMap_cons_some (f := textD) (a := .str x) (b := x) rfl, List.map_cons, ← e, List.length_cons, l]
      exact ⟨rfl, rfl⟩
    | _ => cases h1
theorem all_at {f : PyData → Bool} {ds : List PyData} {i : Nat} {b : Bool} (h : (ds.map f)[i]? = some b) : ∃ d, ds[i]? = some d ∧ b = f d := by
  rw [List.getElem?_map] at h
  obtain ⟨x, hx, e⟩ := Option.map_eq_some_iff.mp h
  exact ⟨x, hx, e.symm⟩
section
variable {P : Program} {w : World} {K : PySem.W.Frag} {mg : Str → Option Value} {base : Heap}
/-- an int, no flag -/
def wholeD : PyData → Bool
  | .int _ => true
  | _ => false
/-- an int within bounds -/
def betweenD (a b : Int) : PyData → Bool
  | .int i => decide (a ≤ i) && decide (i ≤ b)
  | _ => false
def spWhole (K : PySem.W.Frag) : Sp := fun vs H Q _ => ∃ (v : V) (d : PyData), vs = [v] ∧ Dp K H v d ∧ Q (.bl (wholeD d)) H
theorem ok_whole {f : Addr} {fd : FuncData} (F : Fun K "is_whole" "is_whole" sWhole f fd) (mI : mg "isinstance" = none) (mInt : mg "int" = none) (mBool : mg "bool" = none) :
    FnOk P w K mg base CX0 1 f fd ["value"] (spWhole K) := by
  refine F.ok scWhole (fun vs H Q E h => ?_) (fun cdv A outer s H vs Q E hr h => ?_)
  · obtain ⟨v, d, rfl, _⟩ := h
    rfl
  obtain ⟨v, d, rfl, hd, q⟩ := h
  refine ⟨_, pss_one (ps_ret (pe_and (pe_callB call_isi (by rfl) mI (by decide +kernel) (pa_cons (pv 0) (pa_cons (pe_bltn (v := .ty "int") (by rfl) mInt (by decide +kernel) rfl) pa_nil)))
    (pe_one (pe_not (pe_callB call_isi (by rfl) mI (by decide +kernel) (pa_cons (pv 0) (pa_cons (pe_bltn (v := .ty "bool") (by rfl) mBool (by decide +kernel) rfl) pa_nil))))))), ?_⟩
  have ty := dp_ty hd
  refine ⟨_, rfl, v, .ty "int", _, _, _, rfl, .ty "int", ty, kit_data (by simp) d, _, rfl, ite2 (fun c1 => ⟨_, rfl, v, .ty "bool", _, _, _, rfl, .ty "bool", ty, kit_data (by simp) d, _, rfl, ?_⟩) fun c1 => ?_⟩
  · cases hd with
    | int i => exact q
    | bl b => exact q
    | _ => exact absurd c1 (by simp only [isT, tyN]; decide)
  · have : wholeD d = false := by
      cases hd with
      | int i => exact absurd rfl c1
      | _ => rfl
    rw [this] at q
    exact q
def spBetween (K : PySem.W.Frag) : Sp := fun vs H Q _ => ∃ (v : V) (d : PyData) (a b : Int), vs = [v, .int a, .int b] ∧ Dp K H v d ∧ Q (.bl (betweenD a b d)) H
theorem ok_between {f fw : Addr} {fd fdw : FuncData} (F : Fun K "is_between" "is_between" sBetween f fd) (GW : FnOk P w K mg base CX0 1 fw fdw ["value"] (spWhole K)) (bW : Binds K fdw ["value"] []) (kW : PySem.W.keepIn K (.ref fw) = true) (mW : mg "is_whole" = some (.ref fw)) :
    FnOk P w K mg base CX0 2 f fd ["value", "least", "most"] (spBetween K) := by
  refine F.ok scBetween (fun vs H Q E h => ?_) (fun cdv A outer s H vs Q E hr h => ?_)
  · obtain ⟨v, d, a, b, rfl, _⟩ := h
    rfl
  obtain ⟨v, d, a, b, rfl, hd, q⟩ := h
  refine ⟨_, pss_one (ps_ret (pe_and (pe_call GW (hr.mono (by decide)) rfl mW kW bW .nil pass0 (pa_cons (pv 0) pa_nil)) (pe_one (pe_chain op_le op_le (pv 1) (pv 0) (pv 2))))), ?_⟩
  refine ⟨_, rfl, v, d, rfl, hd, _, rfl, ite2 (fun c2 => ?_) fun c2 => ?_⟩
  · cases hd with
    | int i =>
      refine ⟨_, rfl, _, rfl, _, _, rfl, rfl, _, rfl, ite2 (fun c3 => ⟨_, rfl, _, _, rfl, rfl, ?_⟩) fun c3 => ?_⟩
      · have : betweenD a b (.int i) = decide (i ≤ b) := by
          show (decide (a ≤ i) && decide (i ≤ b)) = _
          rw [c3, Bool.true_and]
        rw [this] at q
        exact q
      · have : betweenD a b (.int i) = false := by
          show (decide (a ≤ i) && decide (i ≤ b)) = _
          rw [Bool.eq_false_iff.mpr c3, Bool.false_and]
        rw [this] at q
        exact q
    | _ => exact absurd c2 (by simp only [wholeD]; decide)
  · have : betweenD a b d = false := by
      cases hd with
      | int i => exact absurd rfl c2
      | _ => rfl
    rw [this] at q
    exact q
theorem num_between (d : PyData) : betweenD 0 1000000000 d = numD d := by cases d <;> rfl
def spNumber (K : PySem.W.Frag) : Sp := fun vs H Q _ => ∃ (v : V) (d : PyData), vs = [v] ∧ Dp K H v d ∧ Q (.bl (numD d)) H
theorem ok_number {f fb : Addr} {fd fdb : FuncData} {t1 : Tok} (F : Fun K "is_number" "is_number" sNumber f fd) (GB : FnOk P w K mg base CX0 2 fb fdb ["value", "least", "most"] (spBetween K)) (bB : Binds K fdb ["value", "least", "most"] []) (kB : PySem.W.keepIn K (.ref fb) = true) (mB : mg "is_between" = some (.ref fb))
    (mM : mg "MOST_NUMBER" = some (.int 1000000000 t1)) : FnOk P w K mg base CX0 3 f fd ["value"] (spNumber K) := by
  refine F.ok scNumber (fun vs H Q E h => ?_) (fun cdv A outer s H vs Q E hr h => ?_)
  · obtain ⟨v, d, rfl, _⟩ := h
    rfl
  obtain ⟨v, d, rfl, hd, q⟩ := h
  refine ⟨_, pss_one (ps_ret (pe_call GB (hr.mono (by decide)) rfl mB kB bB .nil pass0 (pa_cons (pv 0) (pa_cons pe_int (pa_cons (pe_glob (v := .int 1000000000) (by rfl) mM ⟨_, rfl⟩) pa_nil))))), ?_⟩
  refine ⟨_, rfl, v, d, 0, 1000000000, rfl, hd, ?_⟩
  rw [num_between]
  exact q
def spNumbers (K : PySem.W.Frag) : Sp := fun vs H Q _ => ∃ (v : V) (d : PyData), vs = [v] ∧ Dp K H v d ∧ Fits d ∧ ∀ H', Same H H' → Q (.bl (numsD d)) H'
theorem ok_numbers {f fn : Addr} {fd fdn : FuncData} (F : Fun K "are_numbers" "are_numbers" sNumbers f fd) (GN : FnOk P w K mg base CX0 3 fn fdn ["value"] (spNumber K)) (bN : Binds K fdn ["value"] []) (kN : PySem.W.keepIn K (.ref fn) = true) (mN : mg "is_number" = some (.ref fn))
    (mI : mg "isinstance" = none) (mList : mg "list" = none) (mAll : mg "all" = none) : FnOk P w K mg base CX0 4 f fd ["value"] (spNumbers K) := by
  refine F.ok scNumbers (fun vs H Q E h => ?_) (fun cdv A outer s H vs Q E hr h => ?_)
  · obtain ⟨v, d, rfl, _⟩ := h
    rfl
  obtain ⟨v, d, rfl, hd, fit, q⟩ := h
  have nd := scNumbers.nd
  refine ⟨_, pss_one (ps_ret (pe_and (pe_callB call_isi (by rfl) mI (by decide +kernel) (pa_cons (pv 0) (pa_cons (pe_bltn (v := .ty "list") (by rfl) mList (by decide +kernel) rfl) pa_nil)))
    (pe_one (pe_callB (cr_all rfl) (by rfl) mAll (by decide +kernel) (pa_cons (pe_lc (own := [("item", 1)]) (g := gName 1) (tt := tYes) rfl nd (pi_list (pv 0)) (blkOk_by (own := [("item", 1)]) (N := ["value", "item"]) (sc := defScope sNumbers) (by decide +kernel)) (fun _ _ _ _ _ => pg_name (i := 1) nd rfl (Or.inl rfl)) (fun _ _ _ _ _ => pts_nil)
      (fun _ _ _ _ _ => pe_call GN (hr.mono (by decide)) rfl mN kN bN .nil pass0 (pa_cons (pv 1) pa_nil))) pa_nil))))), ?_⟩
  have ty := dp_ty hd
  refine ⟨_, rfl, v, .ty "list", _, _, _, rfl, .ty "list", ty, kit_data (by simp) d, _, rfl, ite2 (fun c1 => ?_) fun c1 => ?_⟩
  · cases hd with
    | @lst a xs ds hs ha =>
      have len := dpAll_len ha
      obtain ⟨few, _⟩ := fit ds rfl
      refine ⟨_, rfl, a, rfl, ⟨_, hs⟩, fun D nD => lc_bools (walk_list (K := K) (a := a) (xs := xs)) (ds.map numD) (by rw [List.length_map, len]) (Nat.lt_of_le_of_lt (show xs.length ≤ 10000 by rw [len]; exact few) (by decide)) nD (fun _ s1 => L2.Same.seq s1 hs) (fun _ _ _ _ y => by rw [y.1]; exact fun _ _ h => h)
        (fun i v H2 H3 b hi hb s1 y R hR => ?_) (fun H2 s2 e2 => ?_) (fun _ _ _ _ _ m h => m _ _ h)⟩
      · obtain ⟨rfl, hv⟩ := y
        obtain ⟨e, he, rfl⟩ := all_at hb
        exact ⟨rfl, _, rfl, v, e, rfl, dp_same s1 _ _ (dpAll_get ha hv he), hR _ fun _ _ h => h⟩
      · refine ⟨D, _, rfl, SqL.of e2, ?_⟩
        rw [List.all_map]
        exact q H2 s2
    | _ => exact absurd c1 (by simp only [isT, tyN]; decide)
  · have : numsD d = false := by
      cases hd with
      | lst hs ha => exact absurd rfl c1
      | _ => rfl
    have q := q H fun _ _ h => h
    rw [this] at q
    exact q
end
end DQ

set_option Elab.async false
set_option linter.all false
set_option maxRecDepth 100000
set_option maxHeartbeats 4000000
namespace DQ
open PySem PySem.Spec PyProof.Rows L2
theorem not_list {d : PyData} (h : isT "list" d = false) : ∀ ds, d ≠ .list ds := fun ds e => by
  rw [e] at h
  exact absurd h (by simp only [isT, tyN]; decide)
section
variable {P : Program} {w : World} {K : PySem.W.Frag} {mg : Str → Option Value} {base : Heap}
def spWords (K : PySem.W.Frag) : Sp := fun vs H Q _ => ∃ (v : V) (d : PyData) (m : Nat), vs = [v, .int m] ∧ m ≤ 100 ∧ Dp K H v d ∧ Fits d ∧ ∀ H', Same H H' → Q (.bl (wordsD m d)) H'
theorem ok_words {f fn : Addr} {fd fdn : FuncData} (F : Fun K "are_words" "are_words" sWords f fd) (GW : FnOk P w K mg base CX0 2 fn fdn ["value"] (spIsWord K)) (bW : Binds K fdn ["value"] []) (kW : PySem.W.keepIn K (.ref fn) = true) (mW : mg "is_word" = some (.ref fn))
    (mI : mg "isinstance" = none) (mList : mg "list" = none) (mLen : mg "len" = none) (mSet : mg "set" = none) (mAll : mg "all" = none) : FnOk P w K mg base CX0 3 f fd ["value", "most"] (spWords K) := by
  refine F.ok scWords (fun vs H Q E h => ?_) (fun cdv A outer s H vs Q E hr h => ?_)
  · obtain ⟨v, d, m, rfl, _⟩ := h
    rfl
  obtain ⟨v, d, m, rfl, hm, hd, fit, q⟩ := h
  have nd := scWords.nd
  refine ⟨_, (pss_cons (ps_if (PW.pt (pw_or (pt_not (pt_val (pe_callB call_isi (by rfl) mI (by decide +kernel) (pa_cons (pv 0) (pa_cons (pe_bltn (v := .ty "list") (by rfl) mList (by decide +kernel) rfl) pa_nil)))))
      (pw_or1 (pt_cmpR op_gt (pe_callB call_len_seq (by rfl) mLen PySem.boot_len (pa_cons (pv 0) pa_nil)) (pv 1) (by rfl))))) (pss_one (ps_ret pe_bl)) pss_nil)
    (pss_one (ps_ret (pe_and (pe_callB (cr_all rfl) (by rfl) mAll (by decide +kernel) (pa_cons (pe_lc (own := [("word", 2)]) (g := gName 2) (tt := tYes) rfl nd (pi_list (pv 0)) (blkOk_by (own := [("word", 2)]) (N := ["value", "most", "word"]) (sc := defScope sWords) (by decide +kernel)) (fun _ _ _ _ _ => pg_name (i := 2) nd rfl (Or.inl rfl)) (fun _ _ _ _ _ => pts_nil)
      (fun _ _ _ _ _ => pe_call GW (hr.mono (by decide)) rfl mW kW bW .nil pass0 (pa_cons (pv 2) pa_nil))) pa_nil))
      (pe_one (pe_cmpR op_eq (pe_lenSetT rfl (by rfl) mLen (by rfl) mSet (pv 0)) (pe_callB call_len_seq (by rfl) mLen PySem.boot_len (pa_cons (pv 0) pa_nil)) (by rfl))))))), ?_⟩
  have ty := dp_ty hd
  refine ⟨_, rfl, v, .ty "list", _, _, _, rfl, .ty "list", ty, kit_data (by simp) d, ?_⟩
  refine ⟨_, rfl, ite2 (fun c1 => ?_) fun c1 => ?_⟩
  · have no : wordsD m d = false := by
      cases hd with
      | lst hs ha => exact absurd c1 (by simp only [isT, tyN]; decide)
      | _ => rfl
    have q := q H fun _ _ h => h
    rw [no] at q
    exact q
  cases hd with
  | @lst a xs ds hs ha =>
    have len := dpAll_len ha
    obtain ⟨few, short⟩ := fit ds rfl
    refine ⟨_, rfl, a, _, rfl, .inl hs, _, rfl, _, _, rfl, rfl, _, rfl, ite2 (fun c2 => ?_) fun c2 => ?_⟩
    · have no : wordsD m (.list ds) = false := by
        have c2 := of_decide_eq_true c2
        show (decide (ds.length ≤ m) && _) = false
        rw [decide_eq_false (by omega), Bool.false_and]
      have q := q H fun _ _ h => h
      rw [no] at q
      exact q
    have le : ds.length ≤ m := by
      have c2 := of_decide_eq_false (Bool.eq_false_iff.mpr c2)
      omega
    have yes : wordsD m (.list ds) = (ds.all wordD && decide (differ (texts ds) ds.length = ds.length)) := by
      show (decide (ds.length ≤ m) && _) = _
      rw [decide_eq_true le, Bool.true_and]
    rw [yes] at q
    refine ⟨_, rfl, a, rfl, ⟨_, hs⟩, fun D nD => lc_bools (walk_list (K := K) (a := a) (xs := xs)) (ds.map wordD) (by rw [List.length_map, len]) (Nat.lt_of_le_of_lt (show xs.length ≤ 10000 by rw [len]; exact few) (by decide)) nD (fun _ s1 => L2.Same.seq s1 hs) (fun _ _ _ _ y => by rw [y.1]; exact fun _ _ h => h)
        (fun i v H2 H3 b hi hb s1 y R hR => ?_) (fun H2 s2 e2 => ?_) (fun _ _ _ _ _ m h => m _ _ h)⟩
    · obtain ⟨rfl, hv⟩ := y
      obtain ⟨e, he, rfl⟩ := all_at hb
      have dv := dp_same s1 _ _ (dpAll_get ha hv he)
      refine ⟨rfl, _, rfl, v, rfl, ?_⟩
      cases dv with
      | str x => exact .inl ⟨x, rfl, short _ (List.mem_of_getElem? he) x rfl, fun H' sm => hR H' sm⟩
      | non => exact .inr ⟨⟨_, dp_ty (K := K) (d := .none) .non, kit_data (by simp) _⟩, hR _ fun _ _ h => h⟩
      | bl b => exact .inr ⟨⟨_, dp_ty (K := K) (d := .bool b) (.bl b), kit_data (by simp) _⟩, hR _ fun _ _ h => h⟩
      | int i => exact .inr ⟨⟨_, dp_ty (K := K) (d := .int i) (.int i), kit_data (by simp) _⟩, hR _ fun _ _ h => h⟩
      | lst h1 h2 => exact .inr ⟨⟨_, dp_ty (Dp.lst h1 h2), kit_data (by simp) _⟩, hR _ fun _ _ h => h⟩
      | tup h1 h2 => exact .inr ⟨⟨_, dp_ty (Dp.tup h1 h2), kit_data (by simp) _⟩, hR _ fun _ _ h => h⟩
      | dct h1 => exact .inr ⟨⟨_, dp_ty (Dp.dct h1), kit_data (by simp) _⟩, hR _ fun _ _ h => h⟩
    · refine ⟨D, _, rfl, SqL.of e2, _, rfl, ite2 (fun c3 => ?_) fun c3 => ?_⟩
      · rw [List.all_map] at c3
        have c3 : ds.all wordD = true := c3
        obtain ⟨et, lt⟩ := texts_all ha c3
        have hs2 := L2.Same.seq s2 hs
        refine ⟨_, rfl, a, texts ds, rfl, by rw [← et]; exact hs2, by omega, _, rfl, a, xs, rfl, .inl hs2, rfl, ?_⟩
        have q := q H2 s2
        rw [c3, Bool.true_and] at q
        rw [lt, len]
        have ee : decide (V.int ((differ (texts ds) ds.length : Nat) : Int) = V.int (ds.length : Nat)) = decide (differ (texts ds) ds.length = ds.length) := by
          by_cases z : differ (texts ds) ds.length = ds.length
          · rw [z]
            simp
          · rw [decide_eq_false z]
            exact decide_eq_false fun k => z (by injection k with k; omega)
        rw [ee]
        exact q
      · rw [List.all_map] at c3
        have q := q H2 s2
        rw [show ds.all wordD = false from Bool.eq_false_iff.mpr c3, Bool.false_and] at q
        exact q
  | _ => exact absurd rfl c1
def spMarks (K : PySem.W.Frag) (m : Nat) : Sp := fun vs H Q _ => ∃ (v : V) (d : PyData), vs = [v] ∧ Dp K H v d ∧ Fits d ∧ ∀ H', Same H H' → Q (.bl (wordsD m d)) H'
theorem ok_marks {f fn : Addr} {fd fdn : FuncData} {t1 : Tok} (F : Fun K "are_marks" "are_marks" sMarks f fd) (GW : FnOk P w K mg base CX0 3 fn fdn ["value", "most"] (spWords K)) (bW : Binds K fdn ["value", "most"] []) (kW : PySem.W.keepIn K (.ref fn) = true) (mW : mg "are_words" = some (.ref fn))
    (mM : mg "MOST_MARKS" = some (.int 4 t1)) : FnOk P w K mg base CX0 4 f fd ["value"] (spMarks K 4) := by
  refine F.ok scMarks (fun vs H Q E h => ?_) (fun cdv A outer s H vs Q E hr h => ?_)
  · obtain ⟨v, d, rfl, _⟩ := h
    rfl
  obtain ⟨v, d, rfl, hd, fit, q⟩ := h
  refine ⟨_, pss_one (ps_ret (pe_call GW (hr.mono (by decide)) rfl mW kW bW .nil pass0 (pa_cons (pv 0) (pa_cons (pe_glob (v := .int 4) (by rfl) mM ⟨_, rfl⟩) pa_nil)))), ?_⟩
  exact ⟨_, rfl, v, d, 4, rfl, by decide, hd, fit, q⟩
end
end DQ

set_option Elab.async false
set_option linter.all false
set_option maxRecDepth 100000
set_option maxHeartbeats 4000000
namespace DQ
open PySem PySem.Spec PyProof.Rows L2
def columnsD (ms : List Str) : PyData → Bool
  | .list ds => wordsD 2 (.list ds) && !(texts ds).any fun x => inV (.str x) (ms.map V.str)
  | _ => false
theorem columns_no {ms : List Str} {d : PyData} (h : wordsD 2 d = false) : columnsD ms d = false := by
  cases d with
  | list ds =>
    show (wordsD 2 (.list ds) && _) = false
    rw [h, Bool.false_and]
  | _ => rfl
theorem cut_drop {xs : List V} {k : Nat} : cutV xs (some (k : Int)) none = xs.drop k := by
  unfold cutV
  rw [HT.sIx_none, show HT.sIx xs.length 0 (some (k : Int)) = min k xs.length from HT.sIx_nat _ _ _]
  by_cases h : k ≤ xs.length
  · rw [Nat.min_eq_left h, List.take_of_length_le (by rw [List.length_drop]; exact Nat.le_refl _)]
  · rw [Nat.min_eq_right (by omega), Nat.sub_self, List.take_zero, List.drop_eq_nil_of_le (by omega)]
def ascB (ds : List PyData) : Bool := (ds.zip (ds.drop 1)).all fun p => PySem.W.dataLt p.1 p.2
section
variable {P : Program} {w : World} {K : PySem.W.Frag} {mg : Str → Option Value} {base : Heap}
def spColumns (K : PySem.W.Frag) : Sp := fun vs H Q _ => ∃ (ma : Addr) (ms : List Str) (v : V) (d : PyData), vs = [.ref ma, v] ∧ SqL K H ma (ms.map V.str) ∧ Dp K H v d ∧ Fits d ∧ ∀ H', Same H H' → Q (.bl (columnsD ms d)) H'
theorem ok_columns {f fn : Addr} {fd fdn : FuncData} {t1 : Tok} (F : Fun K "are_columns" "are_columns" sColumns f fd) (GW : FnOk P w K mg base CX0 3 fn fdn ["value", "most"] (spWords K)) (bW : Binds K fdn ["value", "most"] []) (kW : PySem.W.keepIn K (.ref fn) = true) (mW : mg "are_words" = some (.ref fn))
    (mM : mg "MOST_COLUMNS" = some (.int 2 t1)) (mAny : mg "any" = none) : FnOk P w K mg base CX0 4 f fd ["marks", "value"] (spColumns K) := by
  refine F.ok scColumns (fun vs H Q E h => ?_) (fun cdv A outer s H vs Q E hr h => ?_)
  · obtain ⟨ma, ms, v, d, rfl, _⟩ := h
    rfl
  obtain ⟨ma, ms, v, d, rfl, hma, hd, fit, q⟩ := h
  have nd := scColumns.nd
  refine ⟨_, pss_one (ps_ret (pe_and (pe_call GW (hr.mono (by decide)) rfl mW kW bW .nil pass0 (pa_cons (pv 1) (pa_cons (pe_glob (v := .int 2) (by rfl) mM ⟨_, rfl⟩) pa_nil)))
    (pe_one (pe_not (pe_callB (cr_any rfl) (by rfl) mAny (by decide +kernel) (pa_cons (pe_lc (own := [("word", 2)]) (g := gName 2) (tt := tYes) rfl nd (pi_list (pv 1)) (blkOk_by (own := [("word", 2)]) (N := ["marks", "value", "word"]) (sc := defScope sColumns) (by decide +kernel)) (fun _ _ _ _ _ => pg_name (i := 2) nd rfl (Or.inl rfl)) (fun _ _ _ _ _ => pts_nil)
      (fun _ _ _ _ _ => pe_cmpR (r := rIn K false) op_in_seq (pv 2) (pv 0) (by rfl))) pa_nil)))))), ?_⟩
  refine ⟨_, rfl, v, d, 2, rfl, by decide, hd, fit, fun H1 s1 => ⟨_, rfl, ite2 (fun c1 => ?_) fun c1 => ?_⟩⟩
  · cases hd with
    | @lst a xs ds hs ha =>
      obtain ⟨few, short⟩ := fit ds rfl
      have c1' : (decide (ds.length ≤ 2) && (ds.all wordD && decide (differ (texts ds) ds.length = ds.length))) = true := c1
      rw [Bool.and_eq_true, Bool.and_eq_true] at c1'
      obtain ⟨et, lt⟩ := texts_all ha c1'.2.1
      have hs1 := L2.Same.seq s1 hs
      rw [et] at hs1
      have yes : columnsD ms (.list ds) = !(texts ds).any fun x => inV (.str x) (ms.map V.str) := by
        show (wordsD 2 (.list ds) && _) = _
        rw [c1, Bool.true_and]
      rw [yes] at q
      refine ⟨_, rfl, a, rfl, ⟨_, hs1⟩, fun D nD => lc_bools (walk_list (K := K) (a := a) (xs := (texts ds).map V.str)) ((texts ds).map fun x => inV (.str x) (ms.map V.str)) (by rw [List.length_map, List.length_map]) (Nat.lt_of_le_of_lt (show ((texts ds).map V.str).length ≤ 10000 by rw [List.length_map, lt]; exact few) (by decide)) nD (fun _ s2 => L2.Same.seq s2 hs1) (fun _ _ _ _ y => by rw [y.1]; exact fun _ _ h => h)
        (fun i v H2 H3 b hi hb s2 y R hR => ?_) (fun H2 s2 e2 => ?_) (fun _ _ _ _ _ m h => m _ _ h)⟩
      · obtain ⟨rfl, hv⟩ := y
        obtain ⟨x, hx, rfl⟩ := at_map hv
        rw [List.getElem?_map, hx] at hb
        cases hb
        exact ⟨rfl, _, rfl, _, rfl, ma, _, rfl, .inl (L2.Same.seq (s1.trans s2) hma), rfl, flat_strs ms, hR _ fun _ _ h => h⟩
      · refine ⟨D, _, rfl, SqL.of e2, _, rfl, ?_⟩
        rw [List.any_map]
        exact q H2 (s1.trans s2)
    | _ => exact absurd c1 (by simp [wordsD])
  · have q := q H1 s1
    rw [columns_no (Bool.eq_false_iff.mpr c1)] at q
    exact q
end
end DQ

set_option Elab.async false
set_option linter.all false
set_option maxRecDepth 100000
set_option maxHeartbeats 400000
namespace DQ
open PySem PySem.Spec PyProof.Rows L2
abbrev sIsFact : Stmt := topS 27
abbrev NF : List Str := ["marks", "columns", "known", "value", "fits", "item"]
theorem scIsFact : FnScope NF ["marks", "columns", "known", "value"] (defScope sIsFact) := ⟨rfl, rfl, rfl, by decide +kernel, rfl, by decide +kernel, by decide +kernel⟩
def okItem (ns : List Int) (d : PyData) : Bool := numD d && match d with
  | .int i => decide (i ∈ ns)
  | _ => false
def hasD (ms : List Str) (b : PyData) : Bool := (ms.map PyData.str).any fun z => PyData.eqv z b
def isFactD (ms cs : List Str) (ns : List Int) : PyData → Bool
  | .tuple (a :: b :: r) => decide (r.length = 1 ∨ r.length = 2) && ((if r.length = 1 then PyData.eqv a (.str "mark") && hasD ms b else PyData.eqv a (.str "link") && hasD cs b) && r.all (okItem ns))
  | _ => false
/-- the parts of a tuple are of a shape that == takes -/
def Parts (d : PyData) : Prop := ∀ ds, d = .tuple ds → ∀ e ∈ ds.take 2, SeqAt.shaped e = true
theorem dp_texts {K : PySem.W.Frag} {H : Hp} : ∀ ms : List Str, DpAll K H (ms.map V.str) (ms.map PyData.str)
  | [] => .nil
  | x :: r => .cons (.str x) (dp_texts r)
theorem room65 {k : Nat} {A : Around} (r : Room k A) : A.units + 65 < cLine := by have := r.un; omega
theorem room1 {k : Nat} {A : Around} (r : Room k A) : A.units + 1 < cLine := by have := r.un; omega
/-- the dict of the items -/
def KnownAt (H : Hp) (ka : Addr) (ns : List Int) : Prop := ∃ kvs : List (Key × V), H ka = some (.dK kvs) ∧ ∀ i : Int, (valV kvs (.inl i)).isSome = decide (i ∈ ns)
theorem dpAll_two {K : PySem.W.Frag} {H : Hp} {xs : List V} {ds : List PyData} (h : DpAll K H xs ds) (l : 2 ≤ ds.length) : ∃ x0 x1 xr d0 d1 dr, xs = x0 :: x1 :: xr ∧ ds = d0 :: d1 :: dr ∧ Dp K H x0 d0 ∧ Dp K H x1 d1 ∧ DpAll K H xr dr := by
  cases h with
  | nil => exact absurd l (by decide)
  | cons a h =>
    cases h with
    | nil => exact absurd l (by simp)
    | cons b h => exact ⟨_, _, _, _, _, _, rfl, rfl, a, b, h⟩
theorem in_34 (n : Nat) : inV (.int (n : Int)) [.int 3, .int 4] = (decide (n = 3) || decide (n = 4)) := by
  show (((3 : Int) == (n : Int)) || (((4 : Int) == (n : Int)) || false)) = _
  rw [Bool.or_false]
  congr 1
  · by_cases h : n = 3
    · rw [h]; rfl
    · rw [decide_eq_false h]
      exact beq_eq_false_iff_ne.mpr fun e => h (by omega)
  · by_cases h : n = 4
    · rw [h]; rfl
    · rw [decide_eq_false h]
      exact beq_eq_false_iff_ne.mpr fun e => h (by omega)
theorem fact_no {ms cs : List Str} {ns : List Int} {ds : List PyData} (h : ¬ (ds.length = 3 ∨ ds.length = 4)) : isFactD ms cs ns (.tuple ds) = false := by
  match ds, h with
  | [], _ => rfl
  | [_], _ => rfl
  | a :: b :: r, h =>
    show (decide (r.length = 1 ∨ r.length = 2) && _) = false
    rw [decide_eq_false (fun z => h (by simp only [List.length_cons]; omega)), Bool.false_and]
section
variable {P : Program} {w : World} {K : PySem.W.Frag} {mg : Str → Option Value} {base : Heap}
def spIsFact (K : PySem.W.Frag) : Sp := fun vs H Q _ => ∃ (ma ca ka : Addr) (ms cs : List Str) (ns : List Int) (v : V) (d : PyData), vs = [.ref ma, .ref ca, .ref ka, v] ∧ SqL K H ma (ms.map V.str) ∧ SqL K H ca (cs.map V.str) ∧ SeqAt.shaped (.list (ms.map PyData.str)) = true ∧ SeqAt.shaped (.list (cs.map PyData.str)) = true ∧
  KnownAt H ka ns ∧ Dp K H v d ∧ Parts d ∧ ∀ H', Same H H' → Q (.bl (isFactD ms cs ns d)) H'
theorem ok_isFact {f fn : Addr} {fd fdn : FuncData} (F : Fun K "is_fact" "is_fact" sIsFact f fd) (GN : FnOk P w K mg base CX0 3 fn fdn ["value"] (spNumber K)) (bN : Binds K fdn ["value"] []) (kN : PySem.W.keepIn K (.ref fn) = true) (mN : mg "is_number" = some (.ref fn))
    (mI : mg "isinstance" = none) (mTuple : mg "tuple" = none) (mLen : mg "len" = none) (mAll : mg "all" = none) : FnOk P w K mg base CX0 4 f fd ["marks", "columns", "known", "value"] (spIsFact K) := by
  refine F.ok scIsFact (fun vs H Q E h => ?_) (fun cdv A outer s H vs Q E hr h => ?_)
  · obtain ⟨_, _, _, _, _, _, _, _, rfl, _⟩ := h
    rfl
  obtain ⟨ma, ca, ka, ms, cs, ns, v, d, rfl, hma, hca, lm, lc, hk, hd, pd, q⟩ := h
  have nd := scIsFact.nd
  refine ⟨_, (pss_cons (ps_if (PW.pt (pw_or (pt_not (pt_val (pe_callB call_isi (by rfl) mI (by decide +kernel) (pa_cons (pv 3) (pa_cons (pe_bltn (v := .ty "tuple") (by rfl) mTuple (by decide +kernel) rfl) pa_nil)))))
      (pw_or1 (pt_cmpR op_notIn_seq (pe_callB call_len_seq (by rfl) mLen PySem.boot_len (pa_cons (pv 3) pa_nil)) (pe_tup (pa_cons pe_int (pa_cons pe_int pa_nil))) (by rfl))))) (pss_one (ps_ret pe_bl)) pss_nil)
    (pss_cons (ps_if (pt_cmpR op_eq (pe_callB call_len_seq (by rfl) mLen PySem.boot_len (pa_cons (pv 3) pa_nil)) pe_int (nomark _))
      (pss_one (ps_set (i := 4) nd rfl (.inl rfl) (pe_and (pe_cmpR (op_eqD hr.units) (pe_ix (r := rIxT K) ix_tup (pv 3) pe_int (fun _ _ => rfl)) pe_str (nomark _)) (pe_one (pe_cmpR (op_inD (room65 hr)) (pe_ix (r := rIxT K) ix_tup (pv 3) pe_int (fun _ _ => rfl)) (pv 0) (by rfl))))))
      (pss_one (ps_set (i := 4) nd rfl (.inl rfl) (pe_and (pe_cmpR (op_eqD hr.units) (pe_ix (r := rIxT K) ix_tup (pv 3) pe_int (fun _ _ => rfl)) pe_str (nomark _)) (pe_one (pe_cmpR (op_inD (room65 hr)) (pe_ix (r := rIxT K) ix_tup (pv 3) pe_int (fun _ _ => rfl)) (pv 1) (by rfl)))))))
    (pss_one (ps_ret (pe_and (pv 4) (pe_one (pe_callB (cr_all rfl) (by rfl) mAll (by decide +kernel) (pa_cons (pe_lc (own := [("item", 5)]) (g := gName 5) (tt := tYes) rfl nd (pi_tup (pe_slice sl_tup (pv 3) (po_some pe_int) po_none)) (blkOk_by (own := [("item", 5)]) (N := NF) (sc := defScope sIsFact) (by decide +kernel)) (fun _ _ _ _ _ => pg_name (i := 5) nd rfl (Or.inl rfl)) (fun _ _ _ _ _ => pts_nil)
      (fun _ _ _ _ _ => pe_and (pe_call GN (hr.mono (by decide)) rfl mN kN bN .nil pass0 (pa_cons (pv 5) pa_nil)) (pe_one (pe_cmp (pc_din (room1 hr) (pv 5) (pv 2)) (by rfl))))) pa_nil)))))))), ?_⟩
  have ty := dp_ty hd
  refine ⟨_, rfl, v, .ty "tuple", _, _, _, rfl, .ty "tuple", ty, kit_data (by simp) d, _, rfl, ite2 (fun c1 => ?_) fun c1 => ?_⟩
  · have no : isFactD ms cs ns d = false := by
      cases hd with
      | tup hs ha => exact absurd c1 (by simp only [isT, tyN]; decide)
      | _ => rfl
    have q := q H fun _ _ h => h
    rw [no] at q
    exact q
  cases hd with
  | @tup a xs ds hs ha =>
    have len := dpAll_len ha
    refine ⟨_, rfl, a, _, rfl, .inr hs, by show 2 ≤ sizeLine; decide, fun T nT => ?_⟩
    have mT := same_new nT (o := .tup [.int 3, .int 4])
    have eT : upd H T (.tup [.int 3, .int 4]) T = some (.tup [.int 3, .int 4]) := upd_same
    generalize upd H T (.tup [.int 3, .int 4]) = H1 at mT eT ⊢
    refine ⟨T, _, rfl, .inr (.inl (.inl eT)), rfl, rfl, _, rfl, ite2 (fun c2 => ?_) fun c2 => ?_⟩
    · have c2 : (!inV (.int (xs.length : Nat)) [.int 3, .int 4]) = true := c2
      rw [in_34, len] at c2
      have q := q H1 mT
      rw [fact_no (fun z => by
        rcases z with z | z
        · rw [z] at c2; exact absurd c2 (by decide)
        · rw [z] at c2; exact absurd c2 (by decide))] at q
      exact q
    have c2 : ¬ (!inV (.int (xs.length : Nat)) [.int 3, .int 4]) = true := c2
    rw [in_34, len] at c2
    have l34 : ds.length = 3 ∨ ds.length = 4 := by
      by_cases h3 : ds.length = 3
      · exact .inl h3
      · by_cases h4 : ds.length = 4
        · exact .inr h4
        · rw [decide_eq_false h3, decide_eq_false h4] at c2
          exact absurd rfl c2
    obtain ⟨x0, x1, xr, d0, d1, dr, ex, ed, a0, a1, ar⟩ := dpAll_two ha (by omega)
    have hs1 := DQ.Same.seqT mT hs
    rw [ex] at hs1
    have s0 : SeqAt.shaped d0 = true := pd _ rfl d0 (by rw [ed]; exact List.mem_cons_self ..)
    have s1 : SeqAt.shaped d1 = true := pd _ rfl d1 (by rw [ed]; exact List.mem_cons_of_mem _ (List.mem_cons_self ..))
    have at0 : atI (x0 :: x1 :: xr) 0 = some x0 := atI_nat (j := 0) rfl
    have at1 : atI (x0 :: x1 :: xr) 1 = some x1 := atI_nat (j := 1) rfl
    have lr : dr.length = 1 ∨ dr.length = 2 := by
      rw [ed] at l34
      simp only [List.length_cons] at l34
      omega
    have lx : xr.length = dr.length := dpAll_len ar
    refine ⟨_, rfl, a, _, rfl, .inr hs1, rfl, _, rfl, ite2 (fun c3 => ?_) fun c3 => ?_⟩
    · have yes : isFactD ms cs ns (.tuple ds) = ((PyData.eqv d0 (.str "mark") && hasD ms d1) && dr.all (okItem ns)) := by
        have e1 : (dr.length = 1) = True := by
          exact eq_true (by have c3 := of_decide_eq_true c3; injection c3 with c3; rw [List.length_cons, List.length_cons, lx] at c3; omega)
        rw [ed]
        show (decide (dr.length = 1 ∨ dr.length = 2) && ((if dr.length = 1 then _ else _) && _)) = _
        rw [decide_eq_true lr, Bool.true_and, if_pos (of_eq_true e1)]
      rw [yes] at q
      refine ⟨_, rfl, a, _, 0, x0, rfl, rfl, hs1, at0, d0, .str "mark", dp_same mT _ _ a0, .str _, s0, by decide +kernel, _, rfl, ite2 (fun c4 => ?_) fun c4 => ?_⟩
      · refine ⟨_, rfl, a, _, 1, x1, rfl, rfl, hs1, at1, _, rfl, d1, ms.map PyData.str, dp_same mT _ _ a1, .lst (L2.Same.seq mT hma) (dp_texts ms), s1, lm, ?_⟩
        rw [c4, Bool.true_and] at q
        refine ⟨_, rfl, hasD ms d1, rfl, ite2 (fun c5 => ?_) fun c5 => ?_⟩
        · rw [c5, Bool.true_and] at q
          refine ⟨_, rfl, _, rfl, a, _, rfl, hs1, fun z => ?_, fun p np => ?_⟩
          · have z := z.1
            rw [show (some (2 : Int)) = some ((2 : Nat) : Int) from rfl, HT.sIx_nat] at z
            simp only [List.length_cons] at z
            omega
          rw [show (some (2 : Int)) = some ((2 : Nat) : Int) from rfl, cut_drop]
          have mp := same_new np (o := .tup ((x0 :: x1 :: xr).drop 2))
          have ep : upd H1 p (.tup ((x0 :: x1 :: xr).drop 2)) p = some (.tup xr) := upd_same
          generalize upd H1 p (.tup ((x0 :: x1 :: xr).drop 2)) = H2 at mp ep ⊢
          have all2 : L2.Same H H2 := mT.trans mp
          refine ⟨p, rfl, ⟨_, .inl (.inl ep)⟩, fun D nD => lc_bools (walk_tup (K := K) (a := p) (xs := xr)) (dr.map (okItem ns)) (by rw [List.length_map, lx]) (Nat.lt_of_le_of_lt (show xr.length ≤ 2 by omega) (by decide)) nD (fun _ s2 => .inl (.inl (s2 _ _ ep))) (fun _ _ _ _ y => by rw [y.1]; exact fun _ _ h => h)
            (fun i v H3 H4 b hi hb s2 y R hR => ?_) (fun H3 s3 e3 => ?_) (fun _ _ _ _ _ m h => m _ _ h)⟩
          · obtain ⟨rfl, hv⟩ := y
            obtain ⟨e, he, rfl⟩ := all_at hb
            have dv := dp_same (all2.trans s2) _ _ (dpAll_get ar hv he)
            refine ⟨rfl, _, rfl, v, e, rfl, dv, _, rfl, ite2 (fun c6 => ?_) fun c6 => ?_⟩
            · cases dv with
              | int i =>
                obtain ⟨kvs, ek, iff⟩ := hk
                refine ⟨_, rfl, _, rfl, ka, _, rfl, .inl ⟨kvs, .inl i, .inl ((all2.trans s2) _ _ ek), rfl, rfl⟩, ?_⟩
                have z := hR _ fun _ _ h => h
                have eo : okItem ns (.int i) = (valV kvs (.inl i)).isSome := by
                  show (numD (.int i) && decide (i ∈ ns)) = _
                  rw [c6, Bool.true_and, iff]
                rw [eo] at z
                exact z
              | _ => exact absurd c6 (by simp [numD])
            · have z := hR _ fun _ _ h => h
              have eo : okItem ns e = false := by
                unfold okItem
                rw [Bool.eq_false_iff.mpr c6, Bool.false_and]
              rw [eo] at z
              exact z
          · refine ⟨D, _, rfl, SqL.of e3, ?_⟩
            rw [List.all_map]
            exact q H3 (all2.trans s3)
        · rw [Bool.eq_false_iff.mpr c5, Bool.false_and] at q
          exact q H1 mT
      · rw [Bool.eq_false_iff.mpr c4, Bool.false_and, Bool.false_and] at q
        exact ⟨_, rfl, false, rfl, q H1 mT⟩
    · have yes : isFactD ms cs ns (.tuple ds) = ((PyData.eqv d0 (.str "link") && hasD cs d1) && dr.all (okItem ns)) := by
        have e1 : (dr.length = 1) = False := by
          exact eq_false fun z => c3 (decide_eq_true (by rw [List.length_cons, List.length_cons, lx, z]; rfl))
        rw [ed]
        show (decide (dr.length = 1 ∨ dr.length = 2) && ((if dr.length = 1 then _ else _) && _)) = _
        rw [decide_eq_true lr, Bool.true_and, if_neg (of_eq_false e1)]
      rw [yes] at q
      refine ⟨_, rfl, a, _, 0, x0, rfl, rfl, hs1, at0, d0, .str "link", dp_same mT _ _ a0, .str _, s0, by decide +kernel, _, rfl, ite2 (fun c4 => ?_) fun c4 => ?_⟩
      · refine ⟨_, rfl, a, _, 1, x1, rfl, rfl, hs1, at1, _, rfl, d1, cs.map PyData.str, dp_same mT _ _ a1, .lst (L2.Same.seq mT hca) (dp_texts cs), s1, lc, ?_⟩
        rw [c4, Bool.true_and] at q
        refine ⟨_, rfl, hasD cs d1, rfl, ite2 (fun c5 => ?_) fun c5 => ?_⟩
        · rw [c5, Bool.true_and] at q
          refine ⟨_, rfl, _, rfl, a, _, rfl, hs1, fun z => ?_, fun p np => ?_⟩
          · have z := z.1
            rw [show (some (2 : Int)) = some ((2 : Nat) : Int) from rfl, HT.sIx_nat] at z
            simp only [List.length_cons] at z
            omega
          rw [show (some (2 : Int)) = some ((2 : Nat) : Int) from rfl, cut_drop]
          have mp := same_new np (o := .tup ((x0 :: x1 :: xr).drop 2))
          have ep : upd H1 p (.tup ((x0 :: x1 :: xr).drop 2)) p = some (.tup xr) := upd_same
          generalize upd H1 p (.tup ((x0 :: x1 :: xr).drop 2)) = H2 at mp ep ⊢
          have all2 : L2.Same H H2 := mT.trans mp
          refine ⟨p, rfl, ⟨_, .inl (.inl ep)⟩, fun D nD => lc_bools (walk_tup (K := K) (a := p) (xs := xr)) (dr.map (okItem ns)) (by rw [List.length_map, lx]) (Nat.lt_of_le_of_lt (show xr.length ≤ 2 by omega) (by decide)) nD (fun _ s2 => .inl (.inl (s2 _ _ ep))) (fun _ _ _ _ y => by rw [y.1]; exact fun _ _ h => h)
            (fun i v H3 H4 b hi hb s2 y R hR => ?_) (fun H3 s3 e3 => ?_) (fun _ _ _ _ _ m h => m _ _ h)⟩
          · obtain ⟨rfl, hv⟩ := y
            obtain ⟨e, he, rfl⟩ := all_at hb
            have dv := dp_same (all2.trans s2) _ _ (dpAll_get ar hv he)
            refine ⟨rfl, _, rfl, v, e, rfl, dv, _, rfl, ite2 (fun c6 => ?_) fun c6 => ?_⟩
            · cases dv with
              | int i =>
                obtain ⟨kvs, ek, iff⟩ := hk
                refine ⟨_, rfl, _, rfl, ka, _, rfl, .inl ⟨kvs, .inl i, .inl ((all2.trans s2) _ _ ek), rfl, rfl⟩, ?_⟩
                have z := hR _ fun _ _ h => h
                have eo : okItem ns (.int i) = (valV kvs (.inl i)).isSome := by
                  show (numD (.int i) && decide (i ∈ ns)) = _
                  rw [c6, Bool.true_and, iff]
                rw [eo] at z
                exact z
              | _ => exact absurd c6 (by simp [numD])
            · have z := hR _ fun _ _ h => h
              have eo : okItem ns e = false := by
                unfold okItem
                rw [Bool.eq_false_iff.mpr c6, Bool.false_and]
              rw [eo] at z
              exact z
          · refine ⟨D, _, rfl, SqL.of e3, ?_⟩
            rw [List.all_map]
            exact q H3 (all2.trans s3)
        · rw [Bool.eq_false_iff.mpr c5, Bool.false_and] at q
          exact q H1 mT
      · rw [Bool.eq_false_iff.mpr c4, Bool.false_and, Bool.false_and] at q
        exact ⟨_, rfl, false, rfl, q H1 mT⟩
  | _ => exact absurd rfl c1
end
end DQ

set_option Elab.async false
set_option linter.all false
set_option maxRecDepth 100000
set_option maxHeartbeats 400000
namespace DQ
open PySem PySem.Spec PyProof.Rows L2
/-! ### d.setdefault((..), x): keys that are tuples -/
section
variable {X : Cx} {pins : List (Addr × Obj)} {σ : L2.St} {H : Hp} {s : Shared} {a b : Addr} {r : Value} {d : V} {k : List Key} {A : Around} {E : Value → Shared → Prop}
theorem d_setdT {kvs : List (List Key × V)} {Q : Value → Shared → Prop} (hu : A.units + 1 < cLine) (I : Inv X pins σ H s) (e : H a = some (.dT kvs)) (eb : H b = some (.tup (k.map kV))) (rd : RelV d r) (hl : kvs.length < sizeLine)
    (h1 : ∀ v, valV kvs k = some v → ∀ (w' : Value) (s' : Shared), Inv X pins σ H s' → RelV v w' → Q w' s') (h2 : valV kvs k = none → ∀ (w' : Value) (s' : Shared), Inv X pins σ (upd H a (.dT (putK kvs k d))) s' → RelV d w' → Q w' s') :
    wpAny (model X.prog X.w) A (call (.builtin "dict.setdefault") [.ref a, .ref b, r]) Q E s := by
  obtain ⟨z, hd, xs, rel, dd⟩ := dt_of I.hok e
  have hz : xs.length ≤ sizeLine := by rw [← Paired.length rel]; exact z
  refine call_setdefault_heap (hsz := hz) (tupleKind_room_in1 hu) (key_of I.hok eb) hd dd (fun p hp => ?_) fun hn h' dd' hs => ?_
  · have q := rel.val k
    rw [hp] at q
    cases q0 : valV kvs k with
    | none =>
      rw [q0] at q
      exact (show False from q).elim
    | some v0 =>
      rw [q0] at q
      exact h1 v0 q0 _ _ (I.tok _) q
  · have q := rel.val k
    rw [hn] at q
    cases q0 : valV kvs k with
    | some v0 =>
      rw [q0] at q
      exact (show False from q).elim
    | none =>
      have hl2 : (putK kvs k d).length ≤ sizeLine := by
        have := length_putK kvs k d
        omega
      obtain ⟨o, es, ep, hq, e2, e3, e4, _, e5⟩ := dd'
      refine h2 q0 _ _ (d_write (t' := _) I (by rw [e]; exact True.intro) hs ⟨o, hq⟩ ⟨hl2, hd, _, (rel.put k eb rd).keeps fun c ys ec => ?_, o, es, ep, hq, e2, e3, e4, e5⟩) rd
      rw [upd_ne (ne_of ec e (fun z => nomatch z))]
      exact ec
end
def tDSetdT (td ty tx : TE) : TE := fun σ H Q => td σ H fun x H1 => ∃ a, x = .ref a ∧ IsD H1 a ∧ ty σ H1 fun y H2 => tx σ H2 fun z H3 => ∃ (kvs : List (List Key × V)) (k : List Key) (b : Addr), H3 a = some (.dT kvs) ∧ y = .ref b ∧ H3 b = some (.tup (k.map kV)) ∧ kvs.length < sizeLine ∧
  (∀ v, valV kvs k = some v → Q v H3) ∧ (valV kvs k = none → Q z (upd H3 a (.dT (putK kvs k z))))
section
variable {X : Cx} {o e f : Expr} {td ty tx : TE} {apos cpos : Pos}
theorem pe_dsetdT (hu : X.A.units + 1 < cLine) (ho : PE X o td) (he : PE X e ty) (hf : PE X f tx) (m : M2 X o "setdefault" apos e f cpos) : PE X (.Call (.Attribute o "setdefault" apos) [e, f] [] cpos) (tDSetdT td ty tx) := by
  refine ⟨fun pins s σ H Q I h => ?_⟩
  refine wpAny_Call_method m.base m.few m.line PySem.F.plainAttrs_dict PySem.F.slot_dict_setdefault PySem.F.type_dict_setdefault (thn (ho.run pins s σ H _ I h) fun u s1 ⟨x, H1, I1, rx, a, ex, d, q1⟩ => ?_)
  subst ex
  obtain rfl : u = Value.ref a := rx
  obtain ⟨t1, t2, _⟩ := isD_at I1 d
  refine ⟨t1, t2, ?_⟩
  rw [m.trees]
  refine Calls.callWith_builtin rfl (Calls.evalArgs_plain (Calls.spliced_cons (thn (he.run pins s1 σ H1 _ I1 q1) fun iv s2 ⟨y, H2, I2, ry, q2⟩ =>
    Calls.spliced_cons (thn (hf.run pins s2 σ H2 _ I2 q2) fun fv s3 ⟨z, H3, I3, rz, kvs, k, b, ea, ey, eb, hl, q3, q4⟩ => Calls.spliced_nil ?_))))
  subst ey
  obtain rfl : iv = Value.ref b := ry
  exact d_setdT hu I3 ea eb rz hl (fun v hv w' s4 I4 rw' => ⟨v, _, I4, rw', q3 v hv⟩) fun hn w' s4 I4 rw' => ⟨z, _, I4, rw', q4 hn⟩
end
end DQ

set_option Elab.async false
set_option linter.all false
set_option maxRecDepth 100000
set_option maxHeartbeats 400000
namespace DQ
open PySem PySem.Spec PyProof.Rows L2
/-! ### links that clash -/
def clashes : Fact → Fact → Bool
  | .link c a b, .link c' a' b' => decide (c = c') && ((decide (a = a') && !decide (b = b')) || (decide (b = b') && !decide (a = a')))
  | _, _ => false
def NoClash (fs : List Fact) : Prop := ∀ x ∈ fs, ∀ y ∈ fs, clashes x y = false
theorem clashes_self (x : Fact) : clashes x x = false := by
  cases x with
  | mark _ _ => rfl
  | link c a b => simp [clashes]
theorem clashes_comm (x y : Fact) : clashes x y = clashes y x := by
  cases x with
  | mark _ _ => cases y <;> rfl
  | link c a b =>
    cases y with
    | mark _ _ => rfl
    | link c' a' b' =>
      show (decide (c = c') && ((decide (a = a') && !decide (b = b')) || (decide (b = b') && !decide (a = a')))) = (decide (c' = c) && ((decide (a' = a) && !decide (b' = b)) || (decide (b' = b) && !decide (a' = a))))
      rw [show decide (c = c') = decide (c' = c) from decide_eq_decide.mpr ⟨Eq.symm, Eq.symm⟩, show decide (a = a') = decide (a' = a) from decide_eq_decide.mpr ⟨Eq.symm, Eq.symm⟩, show decide (b = b') = decide (b' = b) from decide_eq_decide.mpr ⟨Eq.symm, Eq.symm⟩]
theorem noClash_snoc {fs : List Fact} {y : Fact} (h : NoClash fs) (n : ∀ x ∈ fs, clashes x y = false) : NoClash (fs ++ [y]) := fun x hx z hz => by
  rcases List.mem_append.mp hx with hx | hx <;> rcases List.mem_append.mp hz with hz | hz
  · exact h x hx z hz
  · rw [List.mem_singleton.mp hz]
    exact n x hx
  · rw [List.mem_singleton.mp hx, clashes_comm]
    exact n z hz
  · rw [List.mem_singleton.mp hx, List.mem_singleton.mp hz]
    exact clashes_self y
def isFrom (c : Str) (a : Int) : Fact → Bool
  | .link c' a' _ => decide (c' = c) && decide (a' = a)
  | _ => false
def isTo (c : Str) (b : Int) : Fact → Bool
  | .link c' _ b' => decide (c' = c) && decide (b' = b)
  | _ => false
/-- the first whose fact is such a one -/
def firstOf (p : Fact → Bool) (zs : List (V × Fact)) : Option V := (zs.find? fun z => p z.2).map (·.1)
theorem firstOf_snoc (p : Fact → Bool) (zs : List (V × Fact)) (z : V × Fact) : firstOf p (zs ++ [z]) = (firstOf p zs).or (if p z.2 = true then some z.1 else none) := by
  unfold firstOf
  rw [List.find?_append]
  cases zs.find? fun z => p z.2 with
  | some y => rfl
  | none =>
    by_cases h : p z.2 = true
    · rw [List.find?_cons_of_pos (by exact h), if_pos h]
      rfl
    · rw [List.find?_cons_of_neg (by exact h), if_neg h]
      rfl
theorem firstOf_some {p : Fact → Bool} {zs : List (V × Fact)} {v : V} (h : firstOf p zs = some v) : ∃ x, (v, x) ∈ zs ∧ p x = true := by
  unfold firstOf at h
  obtain ⟨z, hz, e⟩ := Option.map_eq_some_iff.mp h
  exact ⟨z.2, by rw [← e]; exact List.mem_of_find?_eq_some hz, by simpa using List.find?_some hz⟩
theorem firstOf_none {p : Fact → Bool} {zs : List (V × Fact)} (h : firstOf p zs = none) : ∀ z ∈ zs, p z.2 = false := by
  unfold firstOf at h
  have h := Option.map_eq_none_iff.mp h
  exact fun z hz => Bool.eq_false_iff.mpr (List.find?_eq_none.mp h z hz)
def kF (c : Str) (a : Int) : List Key := [.inr c, .inr "from", .inl a]
def kT (c : Str) (b : Int) : List Key := [.inr c, .inr "to", .inl b]
theorem kF_inj {c c' : Str} {a a' : Int} : kF c a = kF c' a' ↔ c = c' ∧ a = a' := by
  unfold kF
  constructor
  · intro h
    simp only [List.cons.injEq, Sum.inr.injEq, Sum.inl.injEq, and_true, true_and] at h
    exact h
  · rintro ⟨rfl, rfl⟩
    rfl
theorem kT_inj {c c' : Str} {a a' : Int} : kT c a = kT c' a' ↔ c = c' ∧ a = a' := by
  unfold kT
  constructor
  · intro h
    simp only [List.cons.injEq, Sum.inr.injEq, Sum.inl.injEq, and_true, true_and] at h
    exact h
  · rintro ⟨rfl, rfl⟩
    rfl
theorem kFT {c c' : Str} {a a' : Int} : kF c a ≠ kT c' a' := fun h => by
  unfold kF kT at h
  simp only [List.cons.injEq, Sum.inr.injEq] at h
  exact absurd h.2.1 (by decide)
theorem str_beq {x y : Str} : (x == y) = true ↔ x = y := ⟨fun h => eq_of_beq h, fun h => by rw [h]; exact beq_self_eq_true y⟩
theorem fact_eqv (x y : Fact) : PyData.eqv x.d y.d = true ↔ x = y := by
  cases x with
  | mark m i =>
    cases y with
    | mark m' i' =>
      simp only [Fact.d, PyData.eqv, PyData.eqvAll, Bool.and_true, Fact.mark.injEq, Bool.and_eq_true, str_beq, beq_iff_eq, true_and]
    | link c a b =>
      simp only [Fact.d, PyData.eqv, PyData.eqvAll, Bool.and_eq_true, str_beq]
      exact ⟨fun h => absurd h.1 (by decide), fun h => nomatch h⟩
  | link c a b =>
    cases y with
    | mark m' i' =>
      simp only [Fact.d, PyData.eqv, PyData.eqvAll, Bool.and_eq_true, str_beq]
      exact ⟨fun h => absurd h.1 (by decide), fun h => nomatch h⟩
    | link c' a' b' =>
      simp only [Fact.d, PyData.eqv, PyData.eqvAll, Bool.and_true, Fact.link.injEq, Bool.and_eq_true, str_beq, beq_iff_eq, true_and]
def Fact.word : Fact → Str
  | .mark m _ => m
  | .link c _ _ => c
theorem fact_shaped (x : Fact) (h : PyData.canLay0 (.str x.word) = true) : SeqAt.shaped x.d = true := by
  have e1 : PyData.canLay0 (.str "mark") = true := by decide +kernel
  have e2 : PyData.canLay0 (.str "link") = true := by decide +kernel
  have dep := fact_depth x
  show (PyData.canLay0 x.d && decide (x.d.depth ≤ 64)) = true
  rw [decide_eq_true (by omega), Bool.and_true]
  cases x with
  | mark m i =>
    have h : PyData.canLay0 (.str m) = true := h
    simp only [Fact.d, PyData.canLay0, PyData.canLayAll0, Bool.and_true] at h e1 e2 ⊢
    rw [e1, h]
    rfl
  | link c a b =>
    have h : PyData.canLay0 (.str c) = true := h
    simp only [Fact.d, PyData.canLay0, PyData.canLayAll0, Bool.and_true] at h e1 e2 ⊢
    rw [e2, h]
    rfl
end DQ

set_option Elab.async false
set_option linter.all false
set_option maxRecDepth 100000
set_option maxHeartbeats 400000
namespace DQ
open PySem PySem.Spec PyProof.Rows L2
abbrev sClash : Stmt := topS 28
abbrev NC : List Str := ["facts", "taken", "fact", "_", "column", "one", "other", "from_one", "to_other"]
theorem scClash : FnScope NC ["facts"] (defScope sClash) := ⟨rfl, rfl, rfl, by decide +kernel, rfl, by decide +kernel, by decide +kernel⟩
theorem both {Q : VK} {R : V → Prop} {N : Prop} {H3 H4 : Hp} {z : V} (P7 : V → Hp → Prop) (h1 : ∀ v, R v → P7 v H3) (h2 : N → P7 z H4) (h : ∀ v H, P7 v H → Q v H) : (∀ v, R v → Q v H3) ∧ (N → Q z H4) := ⟨fun v r => h _ _ (h1 v r), fun n => h _ _ (h2 n)⟩
theorem isFrom_iff {c : Str} {p : Int} {x : Fact} : isFrom c p x = true ↔ ∃ q, x = .link c p q := by
  cases x with
  | mark _ _ => exact ⟨fun h => absurd h (by simp [isFrom]), fun ⟨q, e⟩ => nomatch e⟩
  | link c' a b =>
    show (decide (c' = c) && decide (a = p)) = true ↔ _
    rw [Bool.and_eq_true, decide_eq_true_iff, decide_eq_true_iff]
    exact ⟨fun ⟨h1, h2⟩ => ⟨b, by rw [h1, h2]⟩, fun ⟨q, e⟩ => by cases e; exact ⟨rfl, rfl⟩⟩
theorem isTo_iff {c : Str} {p : Int} {x : Fact} : isTo c p x = true ↔ ∃ q, x = .link c q p := by
  cases x with
  | mark _ _ => exact ⟨fun h => absurd h (by simp [isTo]), fun ⟨q, e⟩ => nomatch e⟩
  | link c' a b =>
    show (decide (c' = c) && decide (b = p)) = true ↔ _
    rw [Bool.and_eq_true, decide_eq_true_iff, decide_eq_true_iff]
    exact ⟨fun ⟨h1, h2⟩ => ⟨a, by rw [h1, h2]⟩, fun ⟨q, e⟩ => by cases e; exact ⟨rfl, rfl⟩⟩
theorem clash_from {c : Str} {p q r : Int} (h : q ≠ r) : clashes (.link c p q) (.link c p r) = true := by simp [clashes, h]
theorem clash_to {c : Str} {p q r : Int} (h : q ≠ r) : clashes (.link c q p) (.link c r p) = true := by simp [clashes, h]
theorem no_clash {x y : Fact} (h1 : ∀ c p q r, y = .link c p q → x = .link c p r → x = y) (h2 : ∀ c p q r, y = .link c q p → x = .link c r p → x = y) : clashes x y = false := by
  refine Bool.eq_false_iff.mpr fun h => ?_
  cases x with
  | mark _ _ => exact absurd h (by simp [clashes])
  | link c a b =>
    cases y with
    | mark _ _ => exact absurd h (by simp [clashes])
    | link c' a' b' =>
      simp only [clashes, Bool.and_eq_true, Bool.or_eq_true, decide_eq_true_iff, Bool.not_eq_true', decide_eq_false_iff_not] at h
      obtain ⟨rfl, h⟩ := h
      rcases h with ⟨rfl, h⟩ | ⟨rfl, h⟩
      · have z := h1 _ _ _ _ rfl rfl
        cases z
        exact h rfl
      · have z := h2 _ _ _ _ rfl rfl
        cases z
        exact h rfl
/-- what a key's first fact tells of a fact behind it -/
structure Seen (p : Fact → Bool) (fs : List Fact) (x x7 : Fact) : Prop where
  same : x7 = x → ∀ y ∈ fs, p y = true → y = x
  other : x7 ≠ x → x7 ∈ fs ∧ clashes x7 x = true
theorem zip_take_mem {rs : List V} {fs : List Fact} (l : rs.length = fs.length) {i : Nat} {v : V} {x : Fact} (h : (v, x) ∈ (rs.zip fs).take i) : x ∈ fs.take i := by
  have z : x ∈ ((rs.zip fs).take i).map (·.2) := List.mem_map.mpr ⟨_, h, rfl⟩
  rwa [List.map_take, List.map_snd_zip (Nat.le_of_eq l.symm)] at z
theorem zip_take_of {rs : List V} {fs : List Fact} (l : rs.length = fs.length) {i : Nat} {x : Fact} (h : x ∈ fs.take i) : ∃ v, (v, x) ∈ (rs.zip fs).take i := by
  have z : x ∈ ((rs.zip fs).take i).map (·.2) := by rwa [List.map_take, List.map_snd_zip (Nat.le_of_eq l.symm)]
  obtain ⟨⟨v, y⟩, hz, rfl⟩ := List.mem_map.mp z
  exact ⟨v, hz⟩
theorem seen_some {rs : List V} {fs : List Fact} (l : rs.length = fs.length) {i : Nat} {p : Fact → Bool} {x : Fact} {v : V} (hp : ∀ y, p y = true → y ≠ x → clashes y x = true) (nc : NoClash (fs.take i)) (h : firstOf p ((rs.zip fs).take i) = some v) :
    ∃ x7, (v, x7) ∈ (rs.zip fs).take i ∧ Seen p (fs.take i) x x7 := by
  obtain ⟨x7, h1, h2⟩ := firstOf_some h
  have m := zip_take_mem l h1
  refine ⟨x7, h1, fun e y hy py => ?_, fun ne => ⟨m, hp x7 h2 ne⟩⟩
  by_cases z : y = x
  · exact z
  · have := nc y hy x7 m
    rw [e, hp y py z] at this
    exact nomatch this
theorem seen_none {rs : List V} {fs : List Fact} (l : rs.length = fs.length) {i : Nat} {p : Fact → Bool} {x : Fact} (h : firstOf p ((rs.zip fs).take i) = none) : Seen p (fs.take i) x x := by
  refine ⟨fun _ y hy py => ?_, fun ne => absurd rfl ne⟩
  obtain ⟨v, hv⟩ := zip_take_of l hy
  have := firstOf_none h _ hv
  rw [py] at this
  exact nomatch this
theorem next_some {zs : List (V × Fact)} {i : Nat} {z : V × Fact} {p : Fact → Bool} (hz : zs[i]? = some z) (h : p z.2 = true → (firstOf p (zs.take i)).isSome = true) : firstOf p (zs.take (i + 1)) = firstOf p (zs.take i) := by
  rw [take_next hz, firstOf_snoc]
  by_cases e : p z.2 = true
  · obtain ⟨v, hv⟩ := Option.isSome_iff_exists.mp (h e)
    rw [hv]
    rfl
  · rw [if_neg e, Option.or_none]
theorem next_none {zs : List (V × Fact)} {i : Nat} {z : V × Fact} {p : Fact → Bool} (hz : zs[i]? = some z) (e : p z.2 = true) (h : firstOf p (zs.take i) = none) : firstOf p (zs.take (i + 1)) = some z.1 := by
  rw [take_next hz, firstOf_snoc, h, if_pos e]
  rfl
section
variable {P : Program} {w : World} {K : PySem.W.Frag} {mg : Str → Option Value} {base : Heap}
def spClash (K : PySem.W.Frag) : Sp := fun vs H Q _ => ∃ (a : Addr) (rs : List V) (fs : List Fact), vs = [.ref a] ∧ SqL K H a rs ∧ Tups H rs (fs.map Fact.v) ∧ (∀ x ∈ fs, PyData.canLay0 (.str x.word) = true) ∧ fs.length ≤ 10000 ∧
  (∀ H', Same H H' → NoClash fs → Q .non H') ∧ ∀ i y v H', Same H H' → fs[i]? = some y → rs[i]? = some v → NoClash (fs.take i) → (∃ x ∈ fs.take i, clashes x y = true) → Q v H'
theorem ok_clash {f : Addr} {fd : FuncData} (F : Fun K "first_clash" "first_clash" sClash f fd) : FnOk P w K mg base CX0 1 f fd ["facts"] (spClash K) := by
  refine F.ok scClash (fun vs H Q E h => ?_) (fun cdv A outer s H vs Q E hr h => ?_)
  · obtain ⟨_, _, _, rfl, _⟩ := h
    rfl
  obtain ⟨a, rs, fs, rfl, hs, tp, lay, few, q1, q2⟩ := h
  have nd := scClash.nd
  refine ⟨_, (pss_cons (ps_set (i := 1) nd rfl (.inl rfl) pe_dnewT)
    (pss_cons (ps_for PassesOwn.never rfl (pi_list (pv 0)) (pg_name (i := 2) nd rfl (.inl rfl)) (pss_one (ps_if (pt_cmpR op_eq (pe_ix (r := rIxT K) ix_tup (pv 2) pe_int (fun _ _ => rfl)) pe_str (nomark _))
      (pss_cons (ps_asg (pv 2) (pg_tup rfl (pgs_cons (pg_name (i := 3) nd rfl (.inl rfl)) (pgs_cons (pg_name (i := 4) nd rfl (.inl rfl)) (pgs_cons (pg_name (i := 5) nd rfl (.inl rfl)) (pgs_cons (pg_name (i := 6) nd rfl (.inl rfl)) pgs_nil))))))
      (pss_cons (ps_set (i := 7) nd rfl (.inl rfl) (pe_dsetdT (room1 hr) (pv 1) (pe_tup (pa_cons (pv 4) (pa_cons pe_str (pa_cons (pv 5) pa_nil)))) (pv 2) (by constructor <;> rfl)))
      (pss_cons (ps_set (i := 8) nd rfl (.inl rfl) (pe_dsetdT (room1 hr) (pv 1) (pe_tup (pa_cons (pv 4) (pa_cons pe_str (pa_cons (pv 6) pa_nil)))) (pv 2) (by constructor <;> rfl)))
      (pss_one (ps_if (PW.pt (pw_or (pt_cmpR (op_neD hr.units) (pv 7) (pv 2) (nomark _)) (pw_or1 (pt_cmpR (op_neD hr.units) (pv 8) (pv 2) (nomark _))))) (pss_one (ps_ret (pv 2))) pss_nil)))))
      pss_nil)))
    (pss_one (ps_ret pe_non)))), ?_⟩
  intro D nD
  have sD := same_new nD (o := .dT [])
  have eD0 : upd H D (.dT []) D = some (.dT []) := upd_same
  generalize upd H D (.dT []) = H0 at sD eD0 ⊢
  have lr : rs.length = fs.length := by rw [tp.length, List.length_map]
  refine ⟨_, rfl, a, rfl, ⟨_, L2.Same.seq sD hs⟩, for_list (K := K) (a := a) (xs := rs) (fun i σ H' => ∃ (kvs : List (List Key × V)) (y2 y3 y4 y5 y6 y7 y8 : Option V), σ = [some (.ref a), some (.ref D), y2, y3, y4, y5, y6, y7, y8] ∧ Same H H' ∧ H' D = some (.dT kvs) ∧ kvs.length ≤ 2 * i ∧
      (∀ c x, valV kvs (kF c x) = firstOf (isFrom c x) ((rs.zip fs).take i)) ∧ (∀ c x, valV kvs (kT c x) = firstOf (isTo c x) ((rs.zip fs).take i)) ∧ NoClash (fs.take i))
    ⟨[], none, none, none, none, none, none, none, rfl, sD, eD0, Nat.le_refl _, fun _ _ => rfl, fun _ _ => rfl, fun x h => by cases h⟩ (fun i σ H' _ hP => ?_) (fun i v σ H' hx hP => ?_) fun σ H' hP => ?_⟩
  · obtain ⟨_, _, _, _, _, _, _, _, _, sm, _⟩ := hP
    exact L2.Same.seq sm hs
  · obtain ⟨kvs, y2, y3, y4, y5, y6, y7, y8, rfl, sm, eD, lk, hF, hT, nc⟩ := hP
    obtain ⟨t, tv, rfl, ht, htv⟩ := tp.get hx
    obtain ⟨x, hxf, rfl⟩ := at_map htv
    have hi : i < fs.length := (List.getElem?_eq_some_iff.mp hxf).1
    have hz : (rs.zip fs)[i]? = some (.ref t, x) := List.getElem?_zip_eq_some.mpr ⟨hx, hxf⟩
    have lx := lay x (List.mem_of_getElem? hxf)
    have ht' := sm _ _ ht
    have tk : fs.take (i + 1) = fs.take i ++ [x] := take_next hxf
    cases x with
    | mark m it =>
      refine ⟨_, rfl, t, _, 0, .str "mark", rfl, rfl, .inl (.inl ht'), atI_nat (j := 0) rfl, rfl, _, rfl, ?_⟩
      have ne : decide (V.str "mark" = V.str "link") = false := decide_eq_false (fun e => by injection e with e; exact absurd e (by decide))
      rw [ne]
      refine ⟨kvs, _, y3, y4, y5, y6, y7, y8, rfl, sm, eD, by omega, fun c x => ?_, fun c x => ?_, ?_⟩
      · rw [hF, next_some hz (fun e => absurd e (by simp [isFrom]))]
      · rw [hT, next_some hz (fun e => absurd e (by simp [isTo]))]
      · rw [tk]
        exact noClash_snoc nc fun y _ => by cases y <;> rfl
    | link c p q =>
      refine ⟨_, rfl, t, _, 0, .str "link", rfl, rfl, .inl (.inl ht'), atI_nat (j := 0) rfl, rfl, _, rfl, ?_⟩
      rw [decide_eq_true (rfl : V.str "link" = V.str "link")]
      refine ⟨_, rfl, t, _, rfl, .inl (.inl ht'), rfl, .str "link", _, rfl, .str c, _, rfl, .int p, _, rfl, .int q, _, rfl, rfl, ?_⟩
      refine ⟨_, rfl, D, rfl, .inr ⟨kvs, .inl eD⟩, _, rfl, _, rfl, by show 3 ≤ sizeLine; decide, fun T nT => ⟨_, rfl, ?_⟩⟩
      have mT := same_new nT (o := .tup [.str c, .str "from", .int p])
      have eT : upd H' T (.tup [.str c, .str "from", .int p]) T = some (.tup [.str c, .str "from", .int p]) := upd_same
      generalize upd H' T (.tup [.str c, .str "from", .int p]) = H1 at mT eT ⊢
      have eD1 := mT _ _ eD
      have sm1 : L2.Same H H1 := sm.trans mT
      have mem7 : ∀ (v : V) (x7 : Fact), (v, x7) ∈ (rs.zip fs).take i → (∃ t7, v = .ref t7 ∧ H t7 = some (.tup x7.v)) ∧ PyData.canLay0 (.str x7.word) = true := fun v x7 h =>
        ⟨tp.zip _ (List.mem_of_mem_take h), lay _ (List.mem_of_mem_take (zip_take_mem lr h))⟩
      refine ⟨kvs, kF c p, T, eD1, rfl, eT, Nat.lt_of_le_of_lt (show kvs.length ≤ 20000 by omega) (by decide), both (fun v H2 => ∃ (kvs1 : List (List Key × V)) (t7 : Addr) (x7 : Fact), v = .ref t7 ∧ H2 t7 = some (.tup x7.v) ∧ PyData.canLay0 (.str x7.word) = true ∧ Same H H2 ∧ H2 D = some (.dT kvs1) ∧ kvs1.length ≤ 2 * i + 1 ∧ (∀ c x, valV kvs1 (kF c x) = firstOf (isFrom c x) ((rs.zip fs).take (i + 1))) ∧ (∀ c x, valV kvs1 (kT c x) = firstOf (isTo c x) ((rs.zip fs).take i)) ∧ Seen (isFrom c p) (fs.take i) (.link c p q) x7) (fun v hv => ?_) (fun hn => ?_) fun v7 H2 h7 => ?_⟩
      · have hv' := hv
        rw [hF] at hv'
        obtain ⟨x7, hm, seen⟩ := seen_some (x := .link c p q) lr (fun y py ne => by
          obtain ⟨r, rfl⟩ := isFrom_iff.mp py
          exact clash_from fun e => ne (by rw [e])) nc hv'
        obtain ⟨⟨t7, rfl, e7⟩, l7⟩ := mem7 v x7 hm
        refine ⟨kvs, t7, x7, rfl, sm1 _ _ e7, l7, sm1, eD1, by omega, fun c' p' => ?_, hT, seen⟩
        rw [hF, next_some hz fun e => ?_]
        obtain ⟨r, e⟩ := isFrom_iff.mp e
        cases e
        rw [hv']
        rfl
      · have hn' := hn
        rw [hF] at hn'
        refine ⟨putK kvs (kF c p) (.ref t), t, .link c p q, rfl, same_upd sm1 nD _ _ ht, lx, same_upd sm1 nD, upd_same, by have := length_putK kvs (kF c p) (.ref t); omega, fun c' p' => ?_, fun c' p' => ?_, seen_none lr hn'⟩
        · rw [valV_put]
          by_cases e : kF c' p' = kF c p
          · rw [if_pos e]
            obtain ⟨rfl, rfl⟩ := kF_inj.mp e
            exact (next_none hz (isFrom_iff.mpr ⟨q, rfl⟩) hn').symm
          · rw [if_neg e, hF, next_some hz fun k => ?_]
            obtain ⟨r, k⟩ := isFrom_iff.mp k
            cases k
            exact absurd rfl e
        · rw [valV_put, if_neg (fun e => kFT e.symm), hT]
      obtain ⟨kvs1, t7, x7, rfl, e7, l7, sm2, eD2, lk1, hF1, hT1, seen7⟩ := h7
      refine ⟨_, rfl, D, rfl, .inr ⟨kvs1, .inl eD2⟩, _, rfl, _, rfl, by show 3 ≤ sizeLine; decide, fun T2 nT2 => ⟨_, rfl, ?_⟩⟩
      have mT2 := same_new nT2 (o := .tup [.str c, .str "to", .int q])
      have eT2 : upd H2 T2 (.tup [.str c, .str "to", .int q]) T2 = some (.tup [.str c, .str "to", .int q]) := upd_same
      generalize upd H2 T2 (.tup [.str c, .str "to", .int q]) = H3 at mT2 eT2 ⊢
      have eD3 := mT2 _ _ eD2
      have e73 := mT2 _ _ e7
      have sm3 : L2.Same H H3 := sm2.trans mT2
      refine ⟨kvs1, kT c q, T2, eD3, rfl, eT2, Nat.lt_of_le_of_lt (show kvs1.length ≤ 20001 by omega) (by decide), both (fun v H2 => H2 t7 = some (.tup x7.v) ∧ ∃ (kvs1 : List (List Key × V)) (t8 : Addr) (x8 : Fact), v = .ref t8 ∧ H2 t8 = some (.tup x8.v) ∧ PyData.canLay0 (.str x8.word) = true ∧ Same H H2 ∧ H2 D = some (.dT kvs1) ∧ kvs1.length ≤ 2 * i + 2 ∧ (∀ c x, valV kvs1 (kF c x) = firstOf (isFrom c x) ((rs.zip fs).take (i + 1))) ∧ (∀ c x, valV kvs1 (kT c x) = firstOf (isTo c x) ((rs.zip fs).take (i + 1))) ∧ Seen (isTo c q) (fs.take i) (.link c p q) x8) (fun v hv => ?_) (fun hn => ?_) fun v8 H4 h8 => ?_⟩
      · have hv' := hv
        rw [hT1] at hv'
        obtain ⟨x8, hm, seen⟩ := seen_some (x := .link c p q) lr (fun y py ne => by
          obtain ⟨r, rfl⟩ := isTo_iff.mp py
          exact clash_to fun e => ne (by rw [e])) nc hv'
        obtain ⟨⟨t8, rfl, e8⟩, l8⟩ := mem7 v x8 hm
        refine ⟨e73, kvs1, t8, x8, rfl, sm3 _ _ e8, l8, sm3, eD3, by omega, hF1, fun c' p' => ?_, seen⟩
        rw [hT1, next_some hz fun e => ?_]
        obtain ⟨r, e⟩ := isTo_iff.mp e
        cases e
        rw [hv']
        rfl
      · have hn' := hn
        rw [hT1] at hn'
        have neD : t7 ≠ D := fun e => by
          rw [e, eD3] at e73
          exact nomatch e73
        refine ⟨by rw [upd_ne neD]; exact e73, putK kvs1 (kT c q) (.ref t), t, .link c p q, rfl, same_upd sm3 nD _ _ ht, lx, same_upd sm3 nD, upd_same, by have := length_putK kvs1 (kT c q) (.ref t); omega, fun c' p' => ?_, fun c' p' => ?_, seen_none lr hn'⟩
        · rw [valV_put, if_neg kFT, hF1]
        · rw [valV_put]
          by_cases e : kT c' p' = kT c q
          · rw [if_pos e]
            obtain ⟨rfl, rfl⟩ := kT_inj.mp e
            exact (next_none hz (isTo_iff.mpr ⟨p, rfl⟩) hn').symm
          · rw [if_neg e, hT1, next_some hz fun k => ?_]
            obtain ⟨r, k⟩ := isTo_iff.mp k
            cases k
            exact absurd rfl e
      obtain ⟨e74, kvs2, t8, x8, rfl, e8, l8, sm4, eD4, lk2, hF2, hT2, seen8⟩ := h8
      have ht4 := sm4 _ _ ht
      have shx := fact_shaped (.link c p q) lx
      refine ⟨_, rfl, _, rfl, x7.d, (Fact.link c p q).d, fact_dp e74, fact_dp ht4, fact_shaped _ l7, shx, _, rfl, ite2 (fun n1 => ?_) fun n1 => ⟨_, rfl, _, rfl, x8.d, (Fact.link c p q).d, fact_dp e8, fact_dp ht4, fact_shaped _ l8, shx, _, rfl, ite2 (fun n2 => ?_) fun n2 => ?_⟩⟩
      · have ne : x7 ≠ .link c p q := fun e => by
          rw [(fact_eqv _ _).mpr e] at n1
          exact absurd n1 (by decide)
        exact ⟨_, rfl, q2 i _ _ H4 sm4 hxf hx nc ⟨x7, seen7.other ne⟩⟩
      · have ne : x8 ≠ .link c p q := fun e => by
          rw [(fact_eqv _ _).mpr e] at n2
          exact absurd n2 (by decide)
        exact ⟨_, rfl, q2 i _ _ H4 sm4 hxf hx nc ⟨x8, seen8.other ne⟩⟩
      · have yes : ∀ y : Fact, ¬ (!PyData.eqv y.d (Fact.link c p q).d) = true → y = .link c p q := fun y h => (fact_eqv _ _).mp (by
          cases e : PyData.eqv y.d (Fact.link c p q).d with
          | true => rfl
          | false => rw [e] at h; exact absurd rfl h)
        have s7 := seen7.same (yes _ n1)
        have s8 := seen8.same (yes _ n2)
        refine ⟨kvs2, _, _, _, _, _, _, _, rfl, sm4, eD4, by omega, hF2, hT2, ?_⟩
        rw [tk]
        refine noClash_snoc nc fun y hy => no_clash (fun c' p' q' r' k1 k2 => ?_) fun c' p' q' r' k1 k2 => ?_
        · cases k1
          exact s7 y hy (isFrom_iff.mpr ⟨_, k2⟩)
        · cases k1
          exact s8 y hy (isTo_iff.mpr ⟨_, k2⟩)
  · obtain ⟨kvs, y2, y3, y4, y5, y6, y7, y8, rfl, sm, eD, lk, hF, hT, nc⟩ := hP
    rw [lr, List.take_length] at nc
    exact q1 H' sm nc
end
end DQ

set_option Elab.async false
set_option linter.all false
set_option maxRecDepth 100000
set_option maxHeartbeats 400000
namespace DQ
open PySem PySem.Spec PyProof.Rows L2
/-- {item: True for item in items} -/
theorem dc_known {K : PySem.W.Frag} {a : Addr} {ns : List Int} {i : Nat} {vs : List Nat} {σ : L2.St} {H1 : Hp} {D : Addr} {Qd : Hp → Prop} {te : TE} (hs : SqL K H1 a (ns.map V.int)) (few : ns.length ≤ 10000) (nD : H1 D = none)
    (hw : ∀ (x : V), wipe ((wipe σ vs).set i (some x)) vs = wipe σ vs) (ht : ∀ (x : V) H (Q : V → Hp → Prop), Q x H → te ((wipe σ vs).set i (some x)) H Q) (hd : ∀ H, Same H1 H → KnownAt H D ns → Qd H) :
    ∃ W : Nat → Nat → Hp → Prop, (∃ m, W 0 m (upd H1 D (.dK []))) ∧ ∀ k m H, W k m H →
      ((Itl K a).stop k H ∧ Qd H) ∨ ((Itl K a).go k H ∧ ∃ Nx : Hp → Prop, (∀ H', Nx H' → ∃ m', m' < m ∧ W (k + 1) m' H') ∧ ∀ x H', (Itl K a).yld k H x H' → gName i x (wipe σ vs) H' fun σ2 H2 => wipe σ2 vs = wipe σ vs ∧ tYes σ2 H2 fun b H3 =>
        if b = true then te σ2 H3 fun y H4 => tC (.bl true) σ2 H4 fun z H5 => ∃ kvs k, y = kV k ∧ H5 D = some (.dK kvs) ∧ kvs.length < sizeLine ∧ Nx (upd H5 D (.dK (putK kvs k z))) else Nx H3) := by
  refine ⟨fun k m H => m = ns.length - k ∧ k ≤ ns.length ∧ Same H1 H ∧ ∃ kvs, H D = some (.dK kvs) ∧ kvs.length ≤ k ∧ ∀ j : Int, (valV kvs (.inl j)).isSome = decide (j ∈ ns.take k), ⟨ns.length, by simp, Nat.zero_le _, same_new nD, [], upd_same, Nat.le_refl _, fun j => by simp [valV]⟩, ?_⟩
  rintro k m H ⟨rfl, hk, sm, kvs, eD, lk, hv⟩
  have q := L2.Same.seq sm hs
  by_cases hlt : k < ns.length
  · refine .inr ⟨⟨_, _, q, by rw [List.getElem?_eq_getElem (by rw [List.length_map]; exact hlt)]⟩, fun H' => k + 1 ≤ ns.length ∧ Same H1 H' ∧ ∃ kvs, H' D = some (.dK kvs) ∧ kvs.length ≤ k + 1 ∧ ∀ j : Int, (valV kvs (.inl j)).isSome = decide (j ∈ ns.take (k + 1)), fun H' p => ⟨ns.length - (k + 1), by omega, rfl, p⟩, fun x H' y => ?_⟩
    obtain ⟨e, y⟩ := y
    subst e
    obtain ⟨n, hn, rfl⟩ := at_map (y _ q)
    refine ⟨hw _, ?_⟩
    refine ht _ _ _ ⟨kvs, .inl n, rfl, eD, Nat.lt_of_le_of_lt (show kvs.length ≤ 10000 by omega) (by decide), by omega, same_upd sm nD, _, upd_same, by have := length_putK kvs (.inl n) (.bl true); omega, fun j => ?_⟩
    rw [valV_put, take_next hn]
    by_cases e : j = n
    · rw [e, if_pos rfl]
      simp
    · rw [if_neg (fun z => e (by injection z)), hv]
      exact decide_eq_decide.mpr ⟨fun h => List.mem_append_left _ h, fun h => by
        rcases List.mem_append.mp h with h | h
        · exact h
        · exact absurd (List.mem_singleton.mp h) e⟩
  · have e : k = ns.length := by omega
    subst e
    refine .inl ⟨⟨_, q, by rw [List.length_map]; exact Nat.le_refl _⟩, hd H sm ⟨kvs, eD, fun j => ?_⟩⟩
    rw [hv, List.take_length]
def factD : PyData → Option Fact
  | .tuple [.str k, .str m, .int i] => if k = "mark" then some (.mark m i) else none
  | .tuple [.str k, .str c, .int a, .int b] => if k = "link" then some (.link c a b) else none
  | _ => none
def factsD (ds : List PyData) : List Fact := ds.filterMap factD
def noClashB (fs : List Fact) : Bool := fs.all fun x => fs.all fun y => !clashes x y
theorem noClashB_iff {fs : List Fact} : noClashB fs = true ↔ NoClash fs := by
  unfold noClashB NoClash
  simp only [List.all_eq_true, Bool.not_eq_true']
def areFactsD (ms cs : List Str) (ns : List Int) : PyData → Bool
  | .list ds => ds.all (isFactD ms cs ns) && (ascB ds && noClashB (factsD ds))
  | _ => false
theorem eqv_str {d : PyData} {s : Str} (h : PyData.eqv d (.str s) = true) : d = .str s := by
  cases d with
  | str x =>
    have e : (x == s) = true := by simpa only [PyData.eqv] using h
    rw [str_beq.mp e]
  | _ => exact absurd h (by simp [PyData.eqv])
theorem str_eqv {d : PyData} {s : Str} (h : PyData.eqv (.str s) d = true) : d = .str s := by
  cases d with
  | str x =>
    have e : (s == x) = true := by simpa only [PyData.eqv] using h
    rw [str_beq.mp e]
  | _ => exact absurd h (by simp [PyData.eqv])
theorem hasD_str {ms : List Str} {d : PyData} (h : hasD ms d = true) : ∃ m ∈ ms, d = .str m := by
  obtain ⟨z, hz, e⟩ := List.any_eq_true.mp h
  obtain ⟨m, hm, rfl⟩ := List.mem_map.mp hz
  exact ⟨m, hm, str_eqv e⟩
theorem okItem_int {ns : List Int} {d : PyData} (h : okItem ns d = true) : ∃ i ∈ ns, d = .int i := by
  unfold okItem at h
  rw [Bool.and_eq_true] at h
  cases d with
  | int i => exact ⟨i, of_decide_eq_true h.2, rfl⟩
  | _ => exact absurd h.2 (by simp)
theorem isFact_fact {ms cs : List Str} {ns : List Int} {d : PyData} (h : isFactD ms cs ns d = true) : ∃ x : Fact, d = x.d ∧ factD d = some x ∧ (x.word ∈ ms ∨ x.word ∈ cs) ∧ x.of ⟨ms, cs, ns, []⟩ := by
  cases d with
  | tuple ds =>
    match ds, h with
    | [], h => exact nomatch h
    | [_], h => exact nomatch h
    | a :: b :: r, h =>
      have h : (decide (r.length = 1 ∨ r.length = 2) && ((if r.length = 1 then PyData.eqv a (.str "mark") && hasD ms b else PyData.eqv a (.str "link") && hasD cs b) && r.all (okItem ns))) = true := h
      rw [Bool.and_eq_true, Bool.and_eq_true] at h
      obtain ⟨l, h1, h2⟩ := h
      have l := of_decide_eq_true l
      match r, l, h1, h2 with
      | [c], _, h1, h2 =>
        rw [if_pos (show [c].length = 1 from rfl), Bool.and_eq_true] at h1
        obtain ⟨m, hm, rfl⟩ := hasD_str h1.2
        rw [List.all_cons, Bool.and_eq_true] at h2
        obtain ⟨i, hi, rfl⟩ := okItem_int h2.1
        have ea := eqv_str h1.1
        subst ea
        exact ⟨.mark m i, rfl, (if_pos rfl : (if ("mark" : Str) = "mark" then some (Fact.mark m i) else none) = _), .inl hm, hm, hi⟩
      | [c, e], _, h1, h2 =>
        rw [if_neg (by simp), Bool.and_eq_true] at h1
        obtain ⟨m, hm, rfl⟩ := hasD_str h1.2
        rw [List.all_cons, List.all_cons, Bool.and_eq_true, Bool.and_eq_true] at h2
        obtain ⟨i, hi, rfl⟩ := okItem_int h2.1
        obtain ⟨j, hj, rfl⟩ := okItem_int h2.2.1
        have ea := eqv_str h1.1
        subst ea
        exact ⟨.link m i j, rfl, (if_pos rfl : (if ("link" : Str) = "link" then some (Fact.link m i j) else none) = _), .inr hm, hm, hi, hj⟩
      | [], l, _, _ => exact absurd l (by simp)
      | _ :: _ :: _ :: _, l, _, _ => exact absurd l (by simp)
  | _ => exact absurd h (by simp [isFactD])
theorem all_facts {ms cs : List Str} {ns : List Int} : ∀ {ds : List PyData}, ds.all (isFactD ms cs ns) = true → ds = (factsD ds).map Fact.d ∧ ∀ x ∈ factsD ds, (x.word ∈ ms ∨ x.word ∈ cs) ∧ x.of ⟨ms, cs, ns, []⟩
  | [], _ => ⟨rfl, fun x h => by cases h⟩
  | d :: ds, h => by
    rw [List.all_cons, Bool.and_eq_true] at h
    obtain ⟨x, e1, e2, e3, e4⟩ := isFact_fact h.1
    obtain ⟨i1, i2⟩ := all_facts h.2
    unfold factsD at i1 i2 ⊢
    rw [List.filterMap_cons_some e2]
    refine ⟨by rw [List.map_cons, ← i1, ← e1], fun y hy => ?_⟩
    rcases List.mem_cons.mp hy with rfl | hy
    · exact ⟨e3, e4⟩
    · exact i2 y hy
end DQ

set_option Elab.async false
set_option linter.all false
set_option maxRecDepth 100000
set_option maxHeartbeats 400000
namespace DQ
open PySem PySem.Spec PyProof.Rows L2
/-! ### what a store is, of any data: words, items, facts -/
def listD : PyData → List PyData
  | .list ds => ds
  | _ => []
def intD : PyData → Option Int
  | .int i => some i
  | _ => none
def intsD (ds : List PyData) : List Int := ds.filterMap intD
theorem ints_all {K : PySem.W.Frag} {H : Hp} : ∀ {vs : List V} {ds : List PyData}, DpAll K H vs ds → ds.all numD = true → vs = (intsD ds).map V.int ∧ (intsD ds).length = ds.length ∧ ds = (intsD ds).map PyData.int
  | _, _, .nil, _ => ⟨rfl, rfl, rfl⟩
  | v :: vs, d :: ds, .cons a t, h => by
    rw [List.all_cons, Bool.and_eq_true] at h
    obtain ⟨h1, h2⟩ := h
    obtain ⟨e, l, m⟩ := ints_all t h2
    cases a with
    | int x =>
      unfold intsD at e l m ⊢
      rw [List.filterMap_cons_some (f := intD) (a := .int x) (b := x) rfl, List.map_cons, List.map_cons, ← e, ← m, List.length_cons, l]
      exact ⟨rfl, rfl, rfl⟩
    | _ => cases h1
theorem texts_data : ∀ {ds : List PyData}, ds.all wordD = true → ds = (texts ds).map PyData.str
  | [], _ => rfl
  | d :: ds, h => by
    rw [List.all_cons, Bool.and_eq_true] at h
    have m := texts_data h.2
    cases d with
    | str x =>
      unfold texts at m ⊢
      rw [List.filterMap_cons_some (f := textD) (a := .str x) (b := x) rfl, List.map_cons, ← m]
    | _ => exact nomatch h.1
/-- a store, as data -/
def isStoreD (s m c i f : PyData) : Bool :=
  PyData.eqv s (.str "store") && ((wordsD 4 m && columnsD (texts (listD m)) c) && ((numsD i && decide ((listD i).length ≤ 2000) && ascB (listD i)) && areFactsD (texts (listD m)) (texts (listD c)) (intsD (listD i)) f))
theorem wordsD_list {m : Nat} {d : PyData} (h : wordsD m d = true) : ∃ ds, d = .list ds ∧ ds.all wordD = true := by
  cases d with
  | list ds =>
    have h : (decide (ds.length ≤ m) && (ds.all wordD && decide (differ (texts ds) ds.length = ds.length))) = true := h
    rw [Bool.and_eq_true, Bool.and_eq_true] at h
    exact ⟨ds, rfl, h.2.1⟩
  | _ => exact absurd h (by simp [wordsD])
/-- the items of a list can be laid -/
def Lays (d : PyData) : Prop := ∀ ds, d = .list ds → ∀ e ∈ ds, e.canLay0 = true
theorem shaped_texts {ds : List PyData} (h : ds.all wordD = true) (l : ∀ e ∈ ds, e.canLay0 = true) : SeqAt.shaped (.list ((texts ds).map PyData.str)) = true := by
  rw [← texts_data h]
  have c : ∀ {xs : List PyData}, xs.all wordD = true → (∀ e ∈ xs, e.canLay0 = true) → PyData.canLayAll0 xs = true ∧ PyData.depthAll xs = 0 := fun {xs} => by
    induction xs with
    | nil => exact fun _ _ => ⟨rfl, rfl⟩
    | cons x xs ih =>
      intro h l
      rw [List.all_cons, Bool.and_eq_true] at h
      obtain ⟨a, b⟩ := ih h.2 fun e he => l e (List.mem_cons_of_mem _ he)
      have lx := l x (List.mem_cons_self ..)
      cases x with
      | str z =>
        refine ⟨?_, ?_⟩
        · simp only [PyData.canLayAll0]
          rw [lx, a]
          rfl
        · simp only [PyData.depthAll, PyData.depth]
          rw [b]
          rfl
      | _ => exact nomatch h.1
  obtain ⟨a, b⟩ := c h l
  have dep : (PyData.list ds).depth ≤ 64 := by
    simp only [PyData.depth]
    rw [b]
    decide
  show (PyData.canLay0 (.list ds) && decide (PyData.depth (.list ds) ≤ 64)) = true
  rw [decide_eq_true dep, Bool.and_true]
  simp only [PyData.canLay0]
  exact a
theorem ne_int {n k : Nat} (h : n ≠ k) : decide (V.int (n : Int) = V.int (k : Int)) = false := decide_eq_false fun e => h (by injection e with e; omega)
end DQ

set_option Elab.async false
set_option linter.all false
set_option maxRecDepth 100000
set_option maxHeartbeats 400000
namespace DQ
open PySem PySem.Spec PyProof.Rows L2
/-! ### a drawn store is judged a store -/
theorem texts_strs : ∀ ms : List Str, texts (ms.map PyData.str) = ms
  | [] => rfl
  | x :: r => by
    have ih := texts_strs r
    unfold texts at ih ⊢
    rw [List.map_cons, List.filterMap_cons_some (f := textD) (a := .str x) (b := x) rfl, ih]
theorem factD_d (x : Fact) : factD x.d = some x := by
  cases x with
  | mark m i => exact (if_pos rfl : (if ("mark" : Str) = "mark" then some (Fact.mark m i) else none) = _)
  | link c a b => exact (if_pos rfl : (if ("link" : Str) = "link" then some (Fact.link c a b) else none) = _)
theorem factsD_facts : ∀ fs : List Fact, factsD (fs.map Fact.d) = fs
  | [] => rfl
  | x :: r => by
    have ih := factsD_facts r
    unfold factsD at ih ⊢
    rw [List.map_cons, List.filterMap_cons_some (factD_d x), ih]
theorem pairwise_next {α : Type} {R : α → α → Prop} : ∀ {l : List α}, l.Pairwise R → ∀ p ∈ l.zip (l.drop 1), R p.1 p.2
  | [], _, p, h => by cases h
  | [_], _, p, h => by cases h
  | x :: y :: r, h, p, hp => by
    obtain ⟨h1, h2⟩ := List.pairwise_cons.mp h
    have hp : p ∈ (x, y) :: (y :: r).zip ((y :: r).drop 1) := hp
    rcases List.mem_cons.mp hp with rfl | hp
    · exact h1 y (List.mem_cons_self ..)
    · exact pairwise_next h2 p hp
theorem ascB_of {ds : List PyData} (h : ds.Pairwise fun x y => PySem.W.dataLt x y = true) : ascB ds = true :=
  List.all_eq_true.mpr fun p hp => pairwise_next h p hp
theorem asc_ints {ns : List Int} (h : ns.Pairwise (· < ·)) : ascB (ns.map PyData.int) = true :=
  ascB_of (List.pairwise_map.mpr (h.imp fun {a b} h => by rw [PySem.W.dataLt_int]; exact decide_eq_true h))
theorem asc_facts {fs : List Fact} (h : fs.Pairwise fun x y => PySem.W.dataLt x.d y.d = true) : ascB (fs.map Fact.d) = true := ascB_of (List.pairwise_map.mpr h)
theorem nums_of {ns : List Int} (h : ∀ x ∈ ns, 0 ≤ x ∧ x ≤ 1000000000) : numsD (.list (ns.map PyData.int)) = true := by
  refine List.all_eq_true.mpr fun d hd => ?_
  obtain ⟨x, hx, rfl⟩ := List.mem_map.mp hd
  show (decide (0 ≤ x) && decide (x ≤ 1000000000)) = true
  rw [decide_eq_true (h x hx).1, decide_eq_true (h x hx).2]
  rfl
theorem hasD_of {ms : List Str} {m : Str} (h : m ∈ ms) : hasD ms (.str m) = true :=
  List.any_eq_true.mpr ⟨.str m, List.mem_map.mpr ⟨m, h, rfl⟩, by simp only [PyData.eqv]; exact str_beq.mpr rfl⟩
theorem okItem_of {ns : List Int} (hn : ∀ x ∈ ns, 0 ≤ x ∧ x ≤ 1000000000) {i : Int} (h : i ∈ ns) : okItem ns (.int i) = true := by
  show ((decide (0 ≤ i) && decide (i ≤ 1000000000)) && decide (i ∈ ns)) = true
  rw [decide_eq_true (hn i h).1, decide_eq_true (hn i h).2, decide_eq_true h]
  rfl
theorem isFact_of {S : Store} (hn : ∀ x ∈ S.items, 0 ≤ x ∧ x ≤ 1000000000) {x : Fact} (h : x.of S) : isFactD S.marks S.columns S.items x.d = true := by
  cases x with
  | mark m i =>
    obtain ⟨h1, h2⟩ := h
    show (decide (1 = 1 ∨ 1 = 2) && ((if 1 = 1 then PyData.eqv (.str "mark") (.str "mark") && hasD S.marks (.str m) else _) && (okItem S.items (.int i) && true))) = true
    rw [if_pos rfl, hasD_of h1, okItem_of hn h2]
    decide +kernel
  | link c a b =>
    obtain ⟨h1, h2, h3⟩ := h
    show (decide (2 = 1 ∨ 2 = 2) && ((if 2 = 1 then _ else PyData.eqv (.str "link") (.str "link") && hasD S.columns (.str c)) && (okItem S.items (.int a) && (okItem S.items (.int b) && true)))) = true
    rw [if_neg (by decide), hasD_of h1, okItem_of hn h2, okItem_of hn h3]
    decide +kernel
theorem one_place {l : List (Int × Int)} (h : (l.map (·.1)).Nodup) {a b c : Int} (h1 : (a, b) ∈ l) (h2 : (a, c) ∈ l) : b = c := by
  induction l with
  | nil => cases h1
  | cons p r ih =>
    obtain ⟨n1, n2⟩ := List.nodup_cons.mp h
    rcases List.mem_cons.mp h1 with e1 | h1 <;> rcases List.mem_cons.mp h2 with e2 | h2
    · rw [← e1] at e2
      cases e2
      rfl
    · exact absurd (List.mem_map.mpr ⟨_, h2, by rw [← e1]⟩) n1
    · exact absurd (List.mem_map.mpr ⟨_, h1, by rw [← e2]⟩) n1
    · exact ih n2 h1 h2
theorem one_place2 {l : List (Int × Int)} (h : (l.map (·.2)).Nodup) {a b c : Int} (h1 : (b, a) ∈ l) (h2 : (c, a) ∈ l) : b = c := by
  induction l with
  | nil => cases h1
  | cons p r ih =>
    obtain ⟨n1, n2⟩ := List.nodup_cons.mp h
    rcases List.mem_cons.mp h1 with e1 | h1 <;> rcases List.mem_cons.mp h2 with e2 | h2
    · rw [← e1] at e2
      cases e2
      rfl
    · exact absurd (List.mem_map.mpr ⟨_, h2, by rw [← e1]⟩) n1
    · exact absurd (List.mem_map.mpr ⟨_, h1, by rw [← e2]⟩) n1
    · exact ih n2 h1 h2
theorem mem_links {c : Str} {fs : List Fact} {a b : Int} (h : Fact.link c a b ∈ fs) : (a, b) ∈ linksOf c fs := by
  unfold linksOf
  exact List.mem_filterMap.mpr ⟨_, h, if_pos rfl⟩
theorem noClash_of {ns : List Int} {fs : List Fact} (h : ∀ c, OneToOne ns (linksOf c fs)) : NoClash fs := fun x hx y hy => no_clash (fun c p q r e1 e2 => by
    subst e1 e2
    rw [one_place (h c).1 (mem_links hx) (mem_links hy)]) fun c p q r e1 e2 => by
    subst e1 e2
    rw [one_place2 (h c).2.1 (mem_links hx) (mem_links hy)]
theorem areFacts_of {m : Nat} {S : Store} (D : Drawn m S) : areFactsD S.marks S.columns S.items (.list (S.facts.map Fact.d)) = true := by
  show ((S.facts.map Fact.d).all (isFactD S.marks S.columns S.items) && (ascB (S.facts.map Fact.d) && noClashB (factsD (S.facts.map Fact.d)))) = true
  rw [asc_facts D.rise, factsD_facts, noClashB_iff.mpr (noClash_of D.links), Bool.and_true, Bool.and_true]
  refine List.all_eq_true.mpr fun d hd => ?_
  obtain ⟨x, hx, rfl⟩ := List.mem_map.mp hd
  exact isFact_of D.items.2 (D.facts x hx)
theorem marks_ok {k : Nat} (h : k ≤ 3) : wordsD 4 (.list (((["red", "blue", "gold"] : List Str).take k).map PyData.str)) = true := by
  have c : k = 0 ∨ k = 1 ∨ k = 2 ∨ k = 3 := by omega
  rcases c with rfl | rfl | rfl | rfl <;> decide +kernel
theorem columns_ok {k j : Nat} (h : k ≤ 3) (h1 : 1 ≤ j) (h2 : j ≤ 2) : columnsD ((["red", "blue", "gold"] : List Str).take k) (.list (((["next", "below"] : List Str).take j).map PyData.str)) = true := by
  have c : k = 0 ∨ k = 1 ∨ k = 2 ∨ k = 3 := by omega
  have d : j = 1 ∨ j = 2 := by omega
  rcases c with rfl | rfl | rfl | rfl <;> rcases d with rfl | rfl <;> decide +kernel
theorem dp_intsL {K : PySem.W.Frag} {H : Hp} : ∀ ns : List Int, DpAll K H (ns.map V.int) (ns.map PyData.int)
  | [] => .nil
  | x :: r => .cons (.int x) (dp_intsL r)
theorem dp_facts {K : PySem.W.Frag} {H : Hp} : ∀ {rs : List V} {fs : List Fact}, Tups H rs (fs.map Fact.v) → DpAll K H rs (fs.map Fact.d)
  | [], [], _ => .nil
  | [], _ :: _, t => by cases t
  | _ :: _, [], t => by cases t
  | r :: rs, f :: fs, .cons ⟨a, e, h⟩ t => .cons (by rw [e]; exact fact_dp h) (dp_facts t)
theorem fact_d_inj {x y : Fact} (h : x.d = y.d) : x = y := by
  have := factD_d x
  rw [h, factD_d y] at this
  cases this
  rfl
theorem facts_inj {fs gs : List Fact} (h : fs.map Fact.d = gs.map Fact.d) : fs = gs := by
  have a := factsD_facts fs
  rw [h, factsD_facts] at a
  exact a.symm
theorem fact_parts (x : Fact) (l : PyData.canLay0 (.str x.word) = true) : Parts x.d := fun ds e z hz0 => by
  have hz := List.mem_of_mem_take hz0
  have s1 : SeqAt.shaped (.str "mark") = true := by decide +kernel
  have s2 : SeqAt.shaped (.str "link") = true := by decide +kernel
  have sw : SeqAt.shaped (.str x.word) = true := by
    show (PyData.canLay0 (.str x.word) && decide (PyData.depth (.str x.word) ≤ 64)) = true
    rw [l]
    rfl
  have si : ∀ i : Int, SeqAt.shaped (.int i) = true := fun _ => rfl
  cases x with
  | mark m i =>
    injection e with e
    subst e
    simp only [List.mem_cons, List.not_mem_nil, or_false] at hz
    rcases hz with rfl | rfl | rfl
    · exact s1
    · exact sw
    · exact si _
  | link c a b =>
    injection e with e
    subst e
    simp only [List.mem_cons, List.not_mem_nil, or_false] at hz
    rcases hz with rfl | rfl | rfl | rfl
    · exact s2
    · exact sw
    · exact si _
    · exact si _
/-- a drawn word -/
def drawnWords : List Str := ["red", "blue", "gold", "next", "below"]
theorem lay_words : ∀ x ∈ drawnWords, PyData.canLay0 (.str x) = true ∧ x.length ≤ 1000 := by decide +kernel
theorem Drawn.word {m : Nat} {S : Store} (D : Drawn m S) {x : Str} (h : x ∈ S.marks ∨ x ∈ S.columns) : x ∈ drawnWords := by
  obtain ⟨k, _, ek⟩ := D.marks
  obtain ⟨j, _, _, ej⟩ := D.columns
  rcases h with h | h
  · rw [ek] at h
    have h := List.mem_of_mem_take h
    simp only [List.mem_cons, List.not_mem_nil, or_false] at h
    rcases h with rfl | rfl | rfl <;> decide
  · rw [ej] at h
    have h := List.mem_of_mem_take h
    simp only [List.mem_cons, List.not_mem_nil, or_false] at h
    rcases h with rfl | rfl <;> decide
theorem Drawn.factWord {m : Nat} {S : Store} (D : Drawn m S) {x : Fact} (h : x ∈ S.facts) : x.word ∈ drawnWords := by
  have z := D.facts x h
  cases x with
  | mark m i => exact D.word (.inl z.1)
  | link c a b => exact D.word (.inr z.1)
end DQ

set_option Elab.async false
set_option linter.all false
set_option maxRecDepth 100000
set_option maxHeartbeats 2000000
namespace DQ
open PySem PySem.Spec PyProof.Rows L2
/-! ### small data: what repr, ==, sorted want of it, part by part -/
/-- data that nests at most k deep, of weight at most n, its ints short -/
structure Sm (k n : Nat) (d : PyData) : Prop where
  lay : d.canLay0 = true
  dep : d.depth ≤ k
  wt : d.weight ≤ n
  sh : d.showable = true
  short : d.intsShort 13 = true
theorem Sm.mono {k n k' n' : Nat} {d : PyData} (h : Sm k n d) (hk : k ≤ k') (hn : n ≤ n') : Sm k' n' d := ⟨h.lay, Nat.le_trans h.dep hk, Nat.le_trans h.wt hn, h.sh, h.short⟩
theorem Sm.shows {k n : Nat} {d : PyData} (h : Sm k n d) (hk : k ≤ 64) (hn : n ≤ 1048576) : Shows d := by
  have hl : PyData.layable0 d = true := by
    show (PyData.canLay0 d && decide (PyData.depth d ≤ 64) && decide (PyData.weight d ≤ 2 ^ 20)) = true
    rw [h.lay, decide_eq_true (Nat.le_trans h.dep hk), decide_eq_true (show PyData.weight d ≤ 2 ^ 20 from Nat.le_trans h.wt (by simpa using hn))]
    rfl
  exact ⟨h.sh, PyData.hasDict_of_canLay d h.lay, Nat.le_trans h.dep hk, PyData.shown_fits_of_layable0 (B := 13) (by decide) (by decide) hl h.short⟩
theorem Sm.shaped {k n : Nat} {d : PyData} (h : Sm k n d) (hk : k ≤ 64) : SeqAt.shaped d = true := by
  show (PyData.canLay0 d && decide (PyData.depth d ≤ 64)) = true
  rw [h.lay, decide_eq_true (Nat.le_trans h.dep hk)]
  rfl
theorem sm_none : Sm 0 0 .none := ⟨rfl, Nat.le_refl _, Nat.le_refl _, rfl, rfl⟩
theorem sm_bool (b : Bool) : Sm 0 0 (.bool b) := ⟨rfl, Nat.le_refl _, Nat.le_refl _, rfl, rfl⟩
theorem sm_int {i : Int} (h1 : -100000000000 ≤ i) (h2 : i ≤ 100000000000) : Sm 0 64 (.int i) := by
  have h : i.natAbs < 10 ^ 12 := by omega
  have hl : i.natAbs.log2 < 64 := by
    by_cases z : i.natAbs = 0
    · rw [z]; decide
    · exact (Nat.log2_lt z).mpr (Nat.lt_trans h (by decide))
  refine ⟨rfl, Nat.le_refl _, ?_, ?_, ?_⟩
  · simp only [PyData.weight]
    split <;> omega
  · simp only [PyData.showable]
    exact decide_eq_true (by omega)
  · simp only [PyData.intsShort]
    exact decide_eq_true (PyData.shown_int_le h)
theorem sm_str {x : Str} {n : Nat} (h : PyData.canLay0 (.str x) = true) (hn : x.cps.size ≤ n) : Sm 0 n (.str x) := ⟨h, Nat.le_refl _, by simpa only [PyData.weight] using hn, rfl, rfl⟩
structure SmAll (k n : Nat) (ds : List PyData) : Prop where
  lay : PyData.canLayAll0 ds = true
  dep : PyData.depthAll ds ≤ k
  wt : PyData.weightAll ds ≤ ds.length * (n + 1)
  sh : PyData.showableAll ds = true
  short : PyData.intsShortAll 13 ds = true
theorem smAll {k n : Nat} : ∀ {ds : List PyData}, (∀ d ∈ ds, Sm k n d) → SmAll k n ds
  | [], _ => ⟨rfl, Nat.zero_le _, Nat.zero_le _, rfl, rfl⟩
  | d :: ds, h => by
    have a := h d (List.mem_cons_self ..)
    have b := smAll (ds := ds) fun e he => h e (List.mem_cons_of_mem _ he)
    refine ⟨?_, ?_, ?_, ?_, ?_⟩
    · simp only [PyData.canLayAll0]
      rw [a.lay, b.lay]
      rfl
    · simp only [PyData.depthAll]
      exact Nat.max_le.mpr ⟨a.dep, b.dep⟩
    · simp only [PyData.weightAll, List.length_cons]
      have := a.wt
      have := b.wt
      rw [Nat.add_mul]
      omega
    · simp only [PyData.showableAll]
      rw [a.sh, b.sh]
      rfl
    · simp only [PyData.intsShortAll]
      rw [a.short, b.short]
      rfl
theorem SmAll.list {k n m : Nat} {ds : List PyData} (h : SmAll k n ds) (hm : ds.length ≤ m) : Sm (k + 1) (m * (n + 1)) (.list ds) := by
  refine ⟨by simpa only [PyData.canLay0] using h.lay, ?_, ?_, by simpa only [PyData.showable] using h.sh, by simpa only [PyData.intsShort] using h.short⟩
  · simp only [PyData.depth]
    have := h.dep
    omega
  · simp only [PyData.weight]
    exact Nat.le_trans h.wt (Nat.mul_le_mul_right _ hm)
theorem SmAll.tuple {k n m : Nat} {ds : List PyData} (h : SmAll k n ds) (hm : ds.length ≤ m) : Sm (k + 1) (m * (n + 1)) (.tuple ds) := by
  refine ⟨by simpa only [PyData.canLay0] using h.lay, ?_, ?_, by simpa only [PyData.showable] using h.sh, by simpa only [PyData.intsShort] using h.short⟩
  · simp only [PyData.depth]
    have := h.dep
    omega
  · simp only [PyData.weight]
    exact Nat.le_trans h.wt (Nat.mul_le_mul_right _ hm)
theorem Sm.eqv {k n : Nat} {d : PyData} (h : Sm k n d) (hk : k ≤ 64) : PyData.eqv d d = true := SeqAt.eqv_refl d (SeqAt.canLay_of_shaped (h.shaped hk))
theorem sm_word {x : Str} (h : x ∈ drawnWords) : Sm 0 10 (.str x) := by
  simp only [drawnWords, List.mem_cons, List.not_mem_nil, or_false] at h
  rcases h with rfl | rfl | rfl | rfl | rfl <;> exact sm_str (by decide +kernel) (by decide +kernel)
theorem sm_item {i : Int} (h : 0 ≤ i ∧ i ≤ 1000000000) : Sm 0 64 (.int i) := sm_int (by omega) (by omega)
theorem sm_fact {m : Nat} {S : Store} (D : Drawn m S) {x : Fact} (h : x ∈ S.facts) : Sm 1 260 x.d := by
  have wd := sm_word (D.factWord h)
  have z := D.facts x h
  have it : ∀ i, i ∈ S.items → Sm 0 64 (.int i) := fun i hi => sm_item (D.items.2 i hi)
  have s1 : Sm 0 64 (.str "mark") := sm_str (by decide +kernel) (by decide +kernel)
  have s2 : Sm 0 64 (.str "link") := sm_str (by decide +kernel) (by decide +kernel)
  cases x with
  | mark c i =>
    refine (SmAll.tuple (k := 0) (n := 64) (m := 4) (ds := [.str "mark", .str c, .int i]) (smAll fun d hd => ?_) (show 3 ≤ 4 by decide)).mono (by decide) (by decide)
    simp only [List.mem_cons, List.not_mem_nil, or_false] at hd
    rcases hd with rfl | rfl | rfl
    · exact s1
    · exact wd.mono (by decide) (by decide)
    · exact it _ z.2
  | link c a b =>
    refine (SmAll.tuple (k := 0) (n := 64) (m := 4) (ds := [.str "link", .str c, .int a, .int b]) (smAll fun d hd => ?_) (show 4 ≤ 4 by decide)).mono (by decide) (by decide)
    simp only [List.mem_cons, List.not_mem_nil, or_false] at hd
    rcases hd with rfl | rfl | rfl | rfl
    · exact s2
    · exact wd.mono (by decide) (by decide)
    · exact it _ z.2.1
    · exact it _ z.2.2
theorem sm_facts {m : Nat} {S : Store} (D : Drawn m S) {fs : List Fact} (h : ∀ x ∈ fs, x ∈ S.facts) (hl : fs.length ≤ 1000) : Sm 2 261000 (.list (fs.map Fact.d)) := by
  refine (SmAll.list (k := 1) (n := 260) (m := 1000) (smAll fun d hd => ?_) (by rw [List.length_map]; exact hl)).mono (by decide) (by decide)
  obtain ⟨x, hx, rfl⟩ := List.mem_map.mp hd
  exact sm_fact D (h x hx)
theorem sm_words {ms : List Str} (h : ∀ x ∈ ms, x ∈ drawnWords) (hl : ms.length ≤ 10) : Sm 1 110 (.list (ms.map PyData.str)) := by
  refine (SmAll.list (k := 0) (n := 10) (m := 10) (smAll fun d hd => ?_) (by rw [List.length_map]; exact hl)).mono (by decide) (by decide)
  obtain ⟨x, hx, rfl⟩ := List.mem_map.mp hd
  exact sm_word (h x hx)
theorem sm_items {ns : List Int} (h : ∀ x ∈ ns, 0 ≤ x ∧ x ≤ 1000000000) (hl : ns.length ≤ 1000) : Sm 1 65000 (.list (ns.map PyData.int)) := by
  refine (SmAll.list (k := 0) (n := 64) (m := 1000) (smAll fun d hd => ?_) (by rw [List.length_map]; exact hl)).mono (by decide) (by decide)
  obtain ⟨x, hx, rfl⟩ := List.mem_map.mp hd
  exact sm_item (h x hx)
/-- the data of a store -/
def Store.d (S : Store) : PyData := .tuple [.str "store", .list (S.marks.map PyData.str), .list (S.columns.map PyData.str), .list (S.items.map PyData.int), .list (S.facts.map Fact.d)]
theorem store_dp {K : PySem.W.Frag} {H : Hp} {v : V} {S : Store} (A : StoAt H v S) : Dp K H v S.d := by
  obtain ⟨t, ma, ca, ia, fa, rs, rfl, ht, hma, hca, hia, hfa, tp⟩ := A
  exact .tup (.inl (.inl ht)) (.cons (.str _) (.cons (.lst (SqL.of hma) (dp_texts S.marks)) (.cons (.lst (SqL.of hca) (dp_texts S.columns)) (.cons (.lst (SqL.of hia) (dp_intsL S.items)) (.cons (.lst (SqL.of hfa) (dp_facts tp)) .nil)))))
theorem Drawn.fewMarks {m : Nat} {S : Store} (D : Drawn m S) : S.marks.length ≤ 10 := by
  obtain ⟨k, hk, ek⟩ := D.marks
  rw [ek, List.length_take]
  omega
theorem Drawn.fewColumns {m : Nat} {S : Store} (D : Drawn m S) : S.columns.length ≤ 10 := by
  obtain ⟨k, h1, hk, ek⟩ := D.columns
  rw [ek, List.length_take]
  omega
theorem sm_store {m : Nat} {S : Store} (D : Drawn m S) (hm : m ≤ 1000) : Sm 3 400000 S.d := by
  have a := sm_words (ms := S.marks) (fun x h => D.word (.inl h)) D.fewMarks
  have b := sm_words (ms := S.columns) (fun x h => D.word (.inr h)) D.fewColumns
  have c := sm_items D.items.2 (Nat.le_trans D.few hm)
  have d := sm_facts D (fs := S.facts) (fun x h => h) D.short
  have e : Sm 0 10 (.str "store") := sm_str (by decide +kernel) (by decide +kernel)
  refine ⟨?_, ?_, ?_, ?_, ?_⟩
  · simp only [Store.d, PyData.canLay0, PyData.canLayAll0]
    have := e.lay; have := a.lay; have := b.lay; have := c.lay; have := d.lay
    simp_all [PyData.canLay0]
  · simp only [Store.d, PyData.depth, PyData.depthAll]
    have := e.dep; have := a.dep; have := b.dep; have := c.dep; have := d.dep
    simp only [PyData.depth] at *
    omega
  · simp only [Store.d, PyData.weight, PyData.weightAll]
    have := e.wt; have := a.wt; have := b.wt; have := c.wt; have := d.wt
    simp only [PyData.weight] at *
    omega
  · simp only [Store.d, PyData.showable, PyData.showableAll]
    have := e.sh; have := a.sh; have := b.sh; have := c.sh; have := d.sh
    simp_all [PyData.showable]
  · simp only [Store.d, PyData.intsShort, PyData.intsShortAll]
    have := e.short; have := a.short; have := b.short; have := c.short; have := d.short
    simp_all [PyData.intsShort]
end DQ
namespace DQ
open PySem PySem.Spec PyProof.Rows L2
/-- a row of small data -/
structure SmL (k n : Nat) (ds : List PyData) : Prop where
  lay : PyData.canLayAll0 ds = true
  dep : PyData.depthAll ds ≤ k
  wt : PyData.weightAll ds ≤ n
  sh : PyData.showableAll ds = true
  short : PyData.intsShortAll 13 ds = true
theorem sml_nil {k : Nat} : SmL k 0 [] := ⟨rfl, Nat.zero_le _, Nat.le_refl _, rfl, rfl⟩
theorem Sm.cons {k j a b : Nat} {d : PyData} {ds : List PyData} (x : Sm j a d) (r : SmL k b ds) (hj : j ≤ k) : SmL k (a + 1 + b) (d :: ds) := by
  refine ⟨?_, ?_, ?_, ?_, ?_⟩
  · simp only [PyData.canLayAll0]
    rw [x.lay, r.lay]
    rfl
  · simp only [PyData.depthAll]
    exact Nat.max_le.mpr ⟨Nat.le_trans x.dep hj, r.dep⟩
  · simp only [PyData.weightAll]
    have := x.wt
    have := r.wt
    omega
  · simp only [PyData.showableAll]
    rw [x.sh, r.sh]
    rfl
  · simp only [PyData.intsShortAll]
    rw [x.short, r.short]
    rfl
theorem SmL.list {k n : Nat} {ds : List PyData} (h : SmL k n ds) : Sm (k + 1) n (.list ds) := by
  refine ⟨by simpa only [PyData.canLay0] using h.lay, ?_, by simpa only [PyData.weight] using h.wt, by simpa only [PyData.showable] using h.sh, by simpa only [PyData.intsShort] using h.short⟩
  simp only [PyData.depth]
  have := h.dep
  omega
theorem SmL.tuple {k n : Nat} {ds : List PyData} (h : SmL k n ds) : Sm (k + 1) n (.tuple ds) := by
  refine ⟨by simpa only [PyData.canLay0] using h.lay, ?_, by simpa only [PyData.weight] using h.wt, by simpa only [PyData.showable] using h.sh, by simpa only [PyData.intsShort] using h.short⟩
  simp only [PyData.depth]
  have := h.dep
  omega
end DQ

set_option Elab.async false
set_option linter.all false
set_option maxRecDepth 100000
set_option maxHeartbeats 4000000
/-! an own error class called with keywords: its __new__ takes them and forgets them, its __init__ binds them -/
namespace PySem.ErrKw
open PySem PySem.W PySem.Calls PyProof.Rows PySem.HandSPX
section
variable {prog : Program} {w : World} {A : Around} {E : Value → Shared → Prop} {R : Result → Shared → Prop} {hp : Heap} {gs : Array GenState} {dr : Drawn} {tk : Nat} {os : OsState}
variable {cn cq : Str} {C Nd : Addr} {bases tail tailB : List Value} {hd : Bool} {sl : List Str} {subs : List Value} {abs : Bool} {col : Option Bool} {dict : Option Addr} {z0 z1 z2 z3 z5 : Option Value} {B nw ini : String} {us : List Value} {kw : List (Str × Value)}
theorem kw_check {M : Model} (F : ExcBaseFacts B nw ini tailB) (same : ∀ Y : String, tail.contains (.type Y) = tailB.contains (.type Y)) {Q : Unit → Shared → Prop}
    (hC : hp.get? C = some (excClassObj cn cq C Nd bases tail hd sl subs abs col dict z0 z1 z2 z3 z5 nw)) (hQ : Q () ⟨hp, gs, dr, tk, os⟩) : wpAny M A (checkBuiltinCall nw ⟨.ref C :: us, kw⟩) Q E ⟨hp, gs, dr, tk, os⟩ := by
  have hasB : (Value.ref C :: tail).contains (.type B) = true := by
    rw [List.contains_cons, same, F.hasB, Bool.or_true]
  have star := F.noStar
  simp only [checkBuiltinCall, F.newKind, F.newSplit, F.newRow]
  repeat (first
    | refine wpAny_loadPart_at hC ?_
    | (refine wpAny_isSubtype_exc hC ?_; rw [hasB])
    | refine wpAny_staticBase_exc hC ?_
    | refine wpAny_madeBy_exc hC ?_
    | simp only [bne_self_eq_false, Bool.false_eq_true, if_false]
    | wp_step)
  exact hQ
theorem kw_new (F : ExcBaseFacts B nw ini tailB) (same : ∀ Y : String, tail.contains (.type Y) = tailB.contains (.type Y))
    (hC : hp.get? C = some (excClassObj cn cq C Nd bases tail hd sl subs abs col dict z0 z1 z2 z3 z5 nw))
    (hR : R (.ok (.ret (.ref (hp.objs.size + 1)))) ⟨(hp.push (W.kdv_tup us)).push (excO C hp.objs.size), gs, dr, tk, os⟩) (small : us.length ≤ sizeLine) :
    codeAny (model prog w) A (.builtin nw ⟨.ref C :: us, kw⟩) R ⟨hp, gs, dr, tk, os⟩ := by
  have ends := F.ends
  have has : ∀ {Y : String} {b : Bool}, tailB.contains (.type Y) = b → (Value.ref C :: tail).contains (.type Y) = b := fun {Y b} e => by
    rw [List.contains_cons, same, e]
    rfl
  have i1 := has F.hasB
  have i2 := has F.noAttr
  have i3 := has F.noName
  refine codeAny_builtinAt F.entry ?_
  unfold Builtin.«BaseException.__new__»
  refine wpAt_bind ?_
  refine (show wpAt _ _ _ (stack >>= _) _ _ _ from wpAt_bind (wpAt_stack fun p below => wpAt_of_wpAny ?_))
  wp_walk
  refine wpAt_of_wpAny ?_
  rw [F.owner]
  repeat (first
    | with_reducible refine wpAny_madeHere_exc F.canon hC ?_
    | with_reducible refine wpAny_loadPart_at hC ?_
    | (with_reducible refine wpAny_isSubtype_exc hC ?_; first | rw [i1] | rw [i2] | rw [i3])
    | wp_step)
  show R _ _
  rw [Heap.size_push]
  exact hR
theorem kw_type (F : ExcBaseFacts B nw ini tailB) (same : ∀ Y : String, tail.contains (.type Y) = tailB.contains (.type Y)) {fI : Addr} {Q : Fin → Shared → Prop}
    (hC : hp.get? C = some (excClassObj cn cq C Nd bases tail hd sl subs abs col dict z0 z1 z2 z3 z5 nw)) (look : Looks (model prog w) hp (typeLookup (.ref C) "__init__") (some (.ref fI))) (bind : ∀ self, Looks (model prog w) hp (bindSpecial (.ref fI) self) (.ref fI, [self])) (small : us.length ≤ sizeLine)
    (hQ : codeAny (model prog w) A (.call (.ref fI) ⟨.ref (hp.objs.size + 1) :: us, kw⟩) (fun r s' => match r with | .ok (.ret v) => v = .none ∧ Q (.done (.ret (.ref (hp.objs.size + 1)))) s' | .ok _ => False | .error e => E e s') ⟨(hp.push (W.kdv_tup us)).push (excO C hp.objs.size), gs, dr, tk, os⟩) :
    wpAny (model prog w) A (Builtin.«type.__call__» ⟨.ref C :: us, kw⟩) Q E ⟨hp, gs, dr, tk, os⟩ := by
  repeat (first
    | with_reducible refine wpAny_loadPart_at hC ?_
    | with_reducible refine wpAny_madeBy_exc hC ?_
    | wp_step)
  refine codeAny_call_builtin_code (Code.quiet_builtin _ F.quiet) (kw_check F same hC (kw_new F same hC ?_ small))
  show wpAny _ _ _ _ _ _
  have grown : ∀ b o, hp.get? b = some o → ((hp.push (W.kdv_tup us)).push (excO C hp.objs.size)).get? b = some o := fun b o z => Heap.get?_push_of_some _ (Heap.get?_push_of_some _ z)
  have made : ((hp.push (W.kdv_tup us)).push (excO C hp.objs.size)).get? (hp.objs.size + 1) = some (excO C hp.objs.size) := by heap_get
  have itself : (Value.ref C :: tail).contains (.ref C) = true := by simp
  have hC2 := grown _ _ hC
  unfold isInstance
  repeat (first
    | with_reducible refine wpAny_loadPart_at made ?_
    | (with_reducible refine wpAny_isSubtype_exc hC2 ?_; rw [itself])
    | wp_step)
  refine (show wpAny _ _ (typeLookup (.ref C) _) _ _ _ from (look.keeps grown).at ?_)
  refine wpAny_holding (wpAny_bind (((bind (.ref (hp.objs.size + 1))).keeps grown).at ?_))
  refine wpAny_bind (wpAny_call (codeAny_mono hQ fun r s' z => ?_))
  match r, z with
  | .error _, z => exact z
  | .ok (.ret _), ⟨rfl, z⟩ =>
    first
      | exact wpAny_pure (wpAny_pure z)
      | (wp_walk; exact z)
  | .ok .next, z => exact z.elim
  | .ok .brk, z => exact z.elim
  | .ok .cont, z => exact z.elim
theorem kw_check_call {M : Model} {Q : Unit → Shared → Prop} (hC : hp.get? C = some (excClassObj cn cq C Nd bases tail hd sl subs abs col dict z0 z1 z2 z3 z5 nw)) (hQ : Q () ⟨hp, gs, dr, tk, os⟩) :
    wpAny M A (checkBuiltinCall "type.__call__" ⟨.ref C :: us, kw⟩) Q E ⟨hp, gs, dr, tk, os⟩ := by
  have sub := tc_sub
  have isTy : (⟨hp, gs, dr, tk, os⟩ : Shared).TypeIs (.ref C) "type" := ⟨_, hC, rfl⟩
  simp only [checkBuiltinCall, tc_kind, tc_split]
  repeat (any_goals (first
    | assumption
    | with_reducible refine wpAny_loadPart_at hC ?_
    | with_reducible refine wpAny_onRaise ?_
    | with_reducible refine wpAny_map ?_
    | wp_step))
theorem kw_call (F : ExcBaseFacts B nw ini tailB) (same : ∀ Y : String, tail.contains (.type Y) = tailB.contains (.type Y)) {fI : Addr}
    (hC : hp.get? C = some (excClassObj cn cq C Nd bases tail hd sl subs abs col dict z0 z1 z2 z3 z5 nw)) (look : Looks (model prog w) hp (typeLookup (.ref C) "__init__") (some (.ref fI))) (bind : ∀ self, Looks (model prog w) hp (bindSpecial (.ref fI) self) (.ref fI, [self])) (small : us.length ≤ sizeLine)
    (hR : codeAny (model prog w) (A.under (.builtin "type.__call__" ⟨.ref C :: us, kw⟩)) (.call (.ref fI) ⟨.ref (hp.objs.size + 1) :: us, kw⟩) (InitBack (hp.objs.size + 1) R) ⟨(hp.push (W.kdv_tup us)).push (excO C hp.objs.size), gs, dr, tk, os⟩) :
    codeAny (model prog w) A (.call (.ref C) ⟨us, kw⟩) R ⟨hp, gs, dr, tk, os⟩ := by
  have l1 := tc_lookup
  have l2 := tc_bind (.ref C)
  have isTy : (⟨hp, gs, dr, tk, os⟩ : Shared).TypeIs (.ref C) "type" := ⟨_, hC, rfl⟩
  refine codeAny_of_tree (show wpAny _ _ (callAny (.ref C) _) _ _ _ from ?_)
  repeat (any_goals (first
    | assumption
    | with_reducible refine wpAny_loadPart_at hC ?_
    | wp_step))
  refine ⟨rfl, codeAny_call_builtin_at (Code.quiet_builtin _ (by decide +kernel)) entry_typeCall (kw_check_call hC (kw_type F same hC look bind small (codeAny_mono hR fun r s' z => ?_)))⟩
  match r, z with
  | .error _, z => exact z
  | .ok (.ret _), z => exact z
  | .ok .next, z => exact z
  | .ok .brk, z => exact z
  | .ok .cont, z => exact z
end
end PySem.ErrKw

set_option Elab.async false
set_option linter.all false
set_option maxRecDepth 100000
set_option maxHeartbeats 4000000
namespace DQ
open PySem PySem.Spec PyProof.Rows L2
/-! ### errors of own classes as values -/
/-- C(e, ..): a new error at a, C's own __init__ keeping sp -/
def tErr (C : Addr) (sp : Sp) (dvs : List V) (ta : TA) : TE := fun σ H Q => ta σ H fun vs H1 => vs.length ≤ 1000 ∧ ∀ a, H1 a = none → sp (.ref a :: (vs ++ dvs)) (upd H1 a (exo a C none)) (fun v H2 => v = .non ∧ Q (.ref a) H2) (fun _ _ _ => False)
section
variable {X : Cx} {x : Str} {C fI : Addr} {k : Nat} {fd : FuncData} {ps : List Str} {sp : Sp} {ds : List Value} {dvs : List V} {CX : CXT} {e : Expr} {es : List Expr} {ta : TA} {p pos : Pos}
theorem run_err {pins : List (Addr × Obj)} {σ : L2.St} {H1 : Hp} {s1 : Shared} {Q : VK} {us : List Value} {vs : List V} (T : OexC X.K C) (iC : PySem.W.findIn X.K (.ref C) "__init__" = some (some (.ref fI))) (tI : PySem.W.typeIn X.K (.ref fI) = some (.type "function"))
    (F1 : FnOk X.prog X.w X.K X.mg X.base CX k fI fd ps sp) (hr : Room (k + 1) X.A) (hb : Binds X.K fd ps ds) (hd : Vals dvs ds) (hx : Passes CX X (fun _ _ _ => False)) (I1 : Inv X pins σ H1 s1) (r1 : Vals vs us) (hz : vs.length ≤ 1000)
    (q1 : ∀ a, H1 a = none → sp (.ref a :: (vs ++ dvs)) (upd H1 a (exo a C none)) (fun v H2 => v = .non ∧ Q (.ref a) H2) (fun _ _ _ => False)) :
    wpAny (model X.prog X.w) X.A (call (.ref C) us) (EP X pins σ Q) X.xe s1 := by
  obtain ⟨nm, q, N, bs, bm, sn, sub, ab, col, dd, k0, k1, k2, k3, k5, hC, hbm⟩ := T.cls
  obtain ⟨hp, g, dr, tk, os⟩ := s1
  have room : hp.objs.size ≤ hp.objs.size + 1 := Nat.le_succ _
  have hq := q1 (hp.objs.size + 1) (I1.hok.fresh room)
  let h2 := (hp.push (PySem.W.kdv_tup us)).push (PySem.HandSPX.excO C hp.objs.size)
  have at2 : h2.get? (hp.objs.size + 1) = some (PySem.HandSPX.excO C hp.objs.size) := by heap_get
  have I2 : Inv X pins σ (upd H1 (hp.objs.size + 1) (exo (hp.objs.size + 1) C none)) ⟨h2, g, dr, tk, os⟩ :=
    Inv.laid (t' := tk) (a := hp.objs.size + 1) (o := exo (hp.objs.size + 1) C none) (h' := h2) I1 (fun b o z => Heap.get?_push_of_some _ (Heap.get?_push_of_some _ z)) room (exo_ok at2)
  have r2 : Vals (V.ref (hp.objs.size + 1) :: (vs ++ dvs)) (Value.ref (hp.objs.size + 1) :: (us ++ ds)) := .cons rfl (r1.append hd)
  have many : (Value.ref (hp.objs.size + 1) :: us ++ ds).length = ps.length := (r2.length.symm.trans (F1.len _ _ _ _ hq))
  have small : us.length ≤ sizeLine := by
    rw [← Paired.length r1, sizeLine_eq]
    omega
  have run := F1.run _ X.stack _ _ ⟨Value.ref (hp.objs.size + 1) :: us, []⟩ _ _ _ (fun _ _ _ => False) (hr.make C us []) (I2.env0.make C us []) (hb _ (Value.ref (hp.objs.size + 1) :: us) I2.kIn many) r2 hq
  refine wpAny_call (PySem.HandSPX.call_own F.excBase_ValueError (fun Y => PySem.HandSPX.refsVE_contains Y bm hbm) (I1.kIn _ _ hC) (PySem.W.looks_findIn I1.kIn iC) (fun self => PySem.W.bind_fn I1.kIn self tI) small (codeAny_mono run fun r s' z => ?_))
  match r, z with
  | .error er, z => exact hx pins σ _ _ er s' I2 z
  | .ok (.ret u), z =>
    obtain ⟨v, H', I3, rv, ev, q3⟩ := I2.after z
    subst ev
    exact ⟨rv, V.ref (hp.objs.size + 1), H', I3, rfl, q3⟩
  | .ok .next, z => exact False.elim z
  | .ok .brk, z => exact False.elim z
  | .ok .cont, z => exact False.elim z
theorem pe_err (T : OexC X.K C) (iC : PySem.W.findIn X.K (.ref C) "__init__" = some (some (.ref fI))) (tI : PySem.W.typeIn X.K (.ref fI) = some (.type "function"))
    (F1 : FnOk X.prog X.w X.K X.mg X.base CX k fI fd ps sp) (hr : Room (k + 1) X.A) (hb : Binds X.K fd ps ds) (hd : Vals dvs ds) (hx : Passes CX X (fun _ _ _ => False)) (hg : Gl X x) (hm : X.mg x = some (.ref C)) (ha : PA X (e :: es) ta)
    (hdb : (x == ("__debug__" : Str)) = false := by decide) (he : starEach (e :: es) X.env = (false, eval e X.env) :: starEach es X.env := by rfl) (hpl : (backTo pos (starEach es X.env)).any (·.1) = false := by rfl) :
    PE X (.Call (.Name x p) (e :: es) [] pos) (tErr C sp dvs ta) := ⟨fun pins s σ H Q I h => by
  refine wpAny_Call_Name_kw (ld_glob I hg hm (PySem.W.callWith_K (h₀ := X.base) I.ok.mod.kin T.kC (thn (ha.run pos pins s σ H _ I h) fun us s1 h1 => ?_) he hpl) hdb)
  obtain ⟨vs, H1, I1, r1, hz, q1⟩ := h1
  exact ⟨I1.kIn, run_err T iC tI F1 hr hb hd hx I1 r1 hz q1⟩⟩
theorem pe_err0 (T : OexC X.K C) (iC : PySem.W.findIn X.K (.ref C) "__init__" = some (some (.ref fI))) (tI : PySem.W.typeIn X.K (.ref fI) = some (.type "function"))
    (F1 : FnOk X.prog X.w X.K X.mg X.base CX k fI fd ps sp) (hr : Room (k + 1) X.A) (hb : Binds X.K fd ps ds) (hd : Vals dvs ds) (hx : Passes CX X (fun _ _ _ => False)) (hg : Gl X x) (hm : X.mg x = some (.ref C))
    (hdb : (x == ("__debug__" : Str)) = false := by decide) : PE X (.Call (.Name x p) [] [] pos) (tErr C sp dvs tNil) := ⟨fun pins s σ H Q I h =>
  wpAny_Call_Name_kw (ld_glob I hg hm (PySem.W.callWith_K0 I.kIn T.kC (run_err (us := []) T iC tI F1 hr hb hd hx I .nil h.1 h.2)) hdb)⟩
/-- e.n of an error that was made -/
def tErrFld (K : PySem.W.Frag) (n : Str) (te : TE) : TE := fun σ H Q => te σ H fun x H1 => ∃ (a C d : Addr) (fs : List (Str × V)) (v : V), x = .ref a ∧ H1 a = some (exo a C (some d)) ∧ H1 d = some (exd d fs) ∧ XfC K C ∧ PySem.W.findIn K (.ref C) n = some none ∧ fs.lookup n = some v ∧ Q v H1
theorem err_inst {P : Program} {w : World} {H : Hp} {h : Heap} {a C : Addr} {d : Option Addr} (ok : HOk P w H h) (ea : H a = some (exo a C d)) (ed : ∀ dx, d = some dx → ∃ fs, H dx = some (exd dx fs)) : ∃ ox od, PySem.W.InstAt h a ox C od := by
  obtain ⟨t1, ho⟩ := exo_at ok ea
  cases d with
  | none => exact ⟨_, none, ho, rfl, rfl, trivial⟩
  | some dx =>
    obtain ⟨fs, e⟩ := ed dx rfl
    obtain ⟨mA, ⟨od, es, ep, hd, hr⟩, _⟩ := exd_at ok e
    exact ⟨_, some od, ho, rfl, rfl, hd⟩
theorem pe_errFld {te : TE} {n : Str} (he : PE X e te) (hb : attributeBase e n X.env (eval e X.env) = eval e X.env := by rfl) : PE X (.Attribute e n pos) (tErrFld X.K n te) := ⟨fun pins s σ H Q I h => by
  refine attr_of hb (thn (he.run pins s σ H _ I h) fun u s1 h1 => ?_)
  obtain ⟨x, H1, I1, rx, a, C, d, fs, v, rfl, ea, ed, T, hno, l, q⟩ := h1
  obtain rfl : u = Value.ref a := rx
  obtain ⟨t1, ho⟩ := exo_at I1.hok ea
  obtain ⟨mA, hns, hr⟩ := exd_at I1.hok ed
  obtain ⟨od, hod, hl⟩ := lookIn_ns hns
  obtain ⟨u, hu, ru⟩ := RelO.some_of (v := v) (o := mA n) (by rw [← l]; exact hr n)
  exact HandSPX.exc_get I1.kIn ⟨ho, rfl, rfl, hod⟩ T.ga T.gg T.exC (PySem.W.findObj_own T.hdC hno rfl (by rw [hl, hu])) (handed_of ru) ⟨v, H1, I1.tok _, ru, q⟩⟩
/-- what isinstance asks of the class of an error -/
structure ErrC (K : PySem.W.Frag) (C : Addr) : Prop where
  cls : (PySem.W.clsIn K C).isSome = true
  ga : PySem.W.findIn K (.ref C) "__getattribute__" = some (some (.builtin "BaseException.__getattribute__"))
  gg : PySem.W.findIn K (.ref C) "__getattr__" = some none
  sub : PySem.W.subIn K (.ref C) (.type "BaseException") = some true
  ca : PySem.W.findIn K (.ref C) "__class__" = some (some (.builtin "object.__class__"))
  cg : PySem.W.specialIn K (.builtin "object.__class__") "__get__" = some (some (.builtin "getset_descriptor.__get__"))
  ct : PySem.W.takesIn K (.builtin "object.__class__") = some true
  mo : PySem.W.mroIn K C (.type "object") = some true
def rErrIs (K : PySem.W.Frag) : List V → Hp → VK → Prop := fun xs H Q => ∃ (a C : Addr) (d : Option Addr) (c : V) (u : Value) (b : Bool), xs = [.ref a, c] ∧ H a = some (exo a C d) ∧ (∀ dx, d = some dx → ∃ fs, H dx = some (exd dx fs)) ∧ ErrC K C ∧ ClsV c u ∧ PySem.W.kitOne K (.ref C) u = some b ∧ Q (.bl b) H
theorem call_errIs : CallR X (.builtin "isinstance") (rErrIs X.K) := by
  intro pins s σ H xs us Q I r h
  obtain ⟨a, C, d, c, u, b, rfl, ea, ed, T, k, e, q⟩ := h
  obtain ⟨u1, u2, rfl, r1, r2⟩ := vals2 r
  obtain rfl : u1 = Value.ref a := r1
  obtain rfl := k.eq r2
  obtain ⟨ox, od, J⟩ := err_inst I.hok ea ed
  exact PySem.W.kia_one (PySem.W.kitx_exc T.cls T.ga T.gg T.sub T.ca T.cg T.ct T.mo) I.kIn J e (fun z => nomatch z) fun tk => ⟨.bl b, H, I.tok tk, rfl, q⟩
/-! two errors of one class without an __eq__ of its own are unequal unless they are one -/
theorem err_apart {prog : Program} {w : World} {A : Around} {E : Value → Shared → Prop} {s : Shared} {K : PySem.W.Frag} {a b D : Addr} {oa ob : Obj} {da db : Option Obj} {Q : Value → Shared → Prop} (hu : A.units < cLine) (hK : K.In s.heap) (I : PySem.W.InstAt s.heap a oa D da) (J : PySem.W.InstAt s.heap b ob D db)
    (mo : PySem.W.mroIn K D (.type "object") = some true) (eq : PySem.W.findIn K (.ref D) "__eq__" = some (some (.builtin "object.__eq__"))) (ne : a ≠ b) (h : Q (.bool false) s) : wpAny (model prog w) A (compareOp .Eq (.ref a) (.ref b)) Q E s := by
  have nt : ∀ {o : Obj} {c : Addr} {dd : Option Obj}, PySem.W.InstAt s.heap c o D dd → o.cls ≠ .type "tuple" := fun z e => by
    rw [z.2] at e
    cases e
  have half : ∀ {c c' : Addr} {o o' : Obj} {d d' : Option Obj}, PySem.W.InstAt s.heap c o D d → PySem.W.InstAt s.heap c' o' D d' → c ≠ c' → wpAny (model prog w) A (tryCompare (.ref c) "__eq__" (.ref c')) (fun r s' => r = none ∧ s' = s) E s := fun z z' n => by
    unfold tryCompare
    refine wpAny_bind (HN.ifBound_objEq hK z eq (wpAny_call (codeAny_call_builtin F.cmp_object.eq.plain F.cmpEntry_eq (PySem.W.check_slot F.cmpKind_eq F.cmpSplit_eq (z.type.andThen (PySem.W.looks_mroIn hK mo)) (F.cmpArgs_eq _ _) (objEq_entry_other n z.1 z'.1 (nt z) ?_)))))
    exact wpAny_pure ⟨rfl, rfl⟩
  show wpAny _ _ (richCompare .Eq _ _) _ _ _
  simp only [richCompare, cmpInfo_Eq, oneThing_ref]
  refine wpAny_holding (wpAny_bind (wpAny_cRoomFor hu ?_))
  refine wpAny_bind (I.type.here (wpAny_bind (J.type.here ?_)))
  rw [if_neg (by simp)]
  refine wpAny_bind (wpAny_pure ?_)
  simp only [Bool.false_eq_true, if_false, Bool.not_false, if_true]
  refine wpAny_bind (m := tryCompare (.ref a) _ (.ref b)) (wpAny_mono (half I J ne) (fun r s1 z => ?_) fun _ _ e => e)
  obtain ⟨rfl, rfl⟩ := z
  refine wpAny_bind (m := tryCompare (.ref b) _ (.ref a)) (wpAny_mono (half J I ne.symm) (fun r s2 z => ?_) fun _ _ e => e)
  obtain ⟨rfl, rfl⟩ := z
  exact wpAny_bind (wpAny_rule (wpAny_bind (wpAny_isSame_ref_other ne I.1 J.1 (nt I) (wpAny_pure h))))
def rErrEq (K : PySem.W.Frag) : R2 := fun x y H Q => ∃ (a b D : Addr) (d d' : Option Addr), x = .ref a ∧ y = .ref b ∧ a ≠ b ∧ H a = some (exo a D d) ∧ H b = some (exo b D d') ∧ (∀ dx, d = some dx → ∃ fs, H dx = some (exd dx fs)) ∧ (∀ dx, d' = some dx → ∃ fs, H dx = some (exd dx fs)) ∧
  PySem.W.mroIn K D (.type "object") = some true ∧ PySem.W.findIn K (.ref D) "__eq__" = some (some (.builtin "object.__eq__")) ∧ Q (.bl false) H
theorem op_errEq (hu : X.A.units < cLine) : OpR X (compareOp .Eq) (rErrEq X.K) := by
  intro pins s σ H x y v u Q I rx ry h
  obtain ⟨a, b, D, d, d', rfl, rfl, ne, ea, eb, ed, ed', mo, eq, q⟩ := h
  obtain rfl : v = Value.ref a := rx
  obtain rfl : u = Value.ref b := ry
  obtain ⟨oa, da, Ia⟩ := err_inst I.hok ea ed
  obtain ⟨ob, db, Ib⟩ := err_inst I.hok eb ed'
  exact err_apart hu I.kIn Ia Ib mo eq ne ⟨.bl false, H, I, rfl, q⟩
/-- C() of a class without an __init__ of its own -/
theorem pe_errB (T : OexC X.K C) (iC : PySem.W.findIn X.K (.ref C) "__init__" = some (some (.builtin "ValueError.__init__"))) (hg : Gl X x) (hm : X.mg x = some (.ref C)) (hdb : (x == ("__debug__" : Str)) = false := by decide) :
    PE X (.Call (.Name x p) [] [] pos) (fun σ H Q => ∀ a, H a = none → Q (.ref a) (upd H a (exo a C none))) := ⟨fun pins s σ H Q I h => by
  refine wpAny_Call_Name_kw (ld_glob I hg hm (PySem.W.callWith_K0 I.kIn T.kC ?_) hdb)
  obtain ⟨nm, q, N, bs, bm, sn, sub, ab, col, dd, k0, k1, k2, k3, k5, hC, hbm⟩ := T.cls
  obtain ⟨hp, g, dr, tk, os⟩ := s
  refine PySem.W.call_B F.excBase_ValueError (fun Y => PySem.HandSPX.refsVE_contains Y bm hbm) (I.kIn _ _ hC) (PySem.W.looks_findIn I.kIn iC) (Nat.zero_le _) fun h' k e1 e2 => ?_
  exact ⟨.ref (hp.objs.size + 1), _, Inv.laid (t' := tk) (o := exo (hp.objs.size + 1) C none) I k (Nat.le_succ _) (exo_ok e1), rfl, h _ (I.hok.fresh (Nat.le_succ _))⟩⟩
/-- C(k = v, ..): keywords alone -/
def tErrK (C : Addr) (m : Nat) (sp : Sp) (gV : List V → List V → List V) (tk : TA) : TE := fun σ H Q => tk σ H fun zs H1 => zs.length = m ∧ ∀ a, H1 a = none → sp (gV [.ref a] zs) (upd H1 a (exo a C none)) (fun v H2 => v = .non ∧ Q (.ref a) H2) (fun _ _ _ => False)
theorem pe_errK {ks : List Str} {kws : List Keyword} {tk : TA} {g : List Value → List Value → List Value} {gV : List V → List V → List V} (T : OexC X.K C) (iC : PySem.W.findIn X.K (.ref C) "__init__" = some (some (.ref fI))) (tI : PySem.W.typeIn X.K (.ref fI) = some (.type "function"))
    (F1 : FnOk X.prog X.w X.K X.mg X.base CX k fI fd ps sp) (hr : Room (k + 1) X.A) (hb : KBn X.K fd ps 1 ks g gV) (hx : Passes CX X (fun _ _ _ => False)) (hg : Gl X x) (hm : X.mg x = some (.ref C)) (hkw : PK X kws tk)
    (hall : (backToKw pos (keywordEach kws X.env)).all (·.1.isSome) = true := by rfl) (hks : (backToKw pos (keywordEach kws X.env)).filterMap (·.1) = ks := by rfl) (hdb : (x == ("__debug__" : Str)) = false := by decide)
    (hpl : ((backTo pos (starEach [] X.env)).any (·.1) || (backToKw pos (keywordEach kws X.env)).any (·.1.isNone)) = false := by rfl) :
    PE X (.Call (.Name x p) [] kws pos) (tErrK C ks.length sp gV tk) := ⟨fun pins s σ H Q I h => by
  refine wpAny_Call_Name_kw (ld_glob I hg hm (PySem.W.callWith_KW0 (h₀ := X.base) I.ok.mod.kin T.kC hall (thn (hkw.run pos pins s σ H _ I h) fun ws s1 h1 => ?_) hpl) hdb)
  obtain ⟨zs, H1, I1, rz, lz, q1⟩ := h1
  refine ⟨I1.kIn, ?_⟩
  rw [hks]
  obtain ⟨nm, q, N, bs, bm, sn, sub, ab, col, dd, k0, k1, k2, k3, k5, hC, hbm⟩ := T.cls
  obtain ⟨hp, gg, dr, tk, os⟩ := s1
  have room : hp.objs.size ≤ hp.objs.size + 1 := Nat.le_succ _
  have hq := q1 (hp.objs.size + 1) (I1.hok.fresh room)
  let h2 := (hp.push (PySem.W.kdv_tup [])).push (PySem.HandSPX.excO C hp.objs.size)
  have at2 : h2.get? (hp.objs.size + 1) = some (PySem.HandSPX.excO C hp.objs.size) := by heap_get
  have I2 : Inv X pins σ (upd H1 (hp.objs.size + 1) (exo (hp.objs.size + 1) C none)) ⟨h2, gg, dr, tk, os⟩ :=
    Inv.laid (t' := tk) (a := hp.objs.size + 1) (o := exo (hp.objs.size + 1) C none) (h' := h2) I1 (fun b o z => Heap.get?_push_of_some _ (Heap.get?_push_of_some _ z)) room (exo_ok at2)
  have r2 := hb.rel (vs := [V.ref (hp.objs.size + 1)]) (us := [Value.ref (hp.objs.size + 1)]) (.cons rfl .nil) rz
  have e2 : ws.length = ks.length := rz.length.symm.trans lz
  have run := F1.run _ X.stack _ _ ⟨[Value.ref (hp.objs.size + 1)], ks.zip ws⟩ _ _ _ (fun _ _ _ => False) (hr.make C [] (ks.zip ws)) (I2.env0.make C [] (ks.zip ws)) (hb.to _ [Value.ref (hp.objs.size + 1)] ws I2.kIn rfl e2) r2 hq
  show wpAny _ _ (call (.ref C) [] (ks.zip ws)) _ _ _
  refine wpAny_call (PySem.ErrKw.kw_call F.excBase_ValueError (fun Y => PySem.HandSPX.refsVE_contains Y bm hbm) (I1.kIn _ _ hC) (PySem.W.looks_findIn I1.kIn iC) (fun self => PySem.W.bind_fn I1.kIn self tI) (Nat.zero_le _) (codeAny_mono run fun r s' z => ?_))
  match r, z with
  | .error er, z => exact hx pins σ _ _ er s' I2 z
  | .ok (.ret u), z =>
    obtain ⟨v, H', I3, rv, ev, q3⟩ := I2.after z
    subst ev
    exact ⟨rv, V.ref (hp.objs.size + 1), H', I3, rfl, q3⟩
  | .ok .next, z => exact False.elim z
  | .ok .brk, z => exact False.elim z
  | .ok .cont, z => exact False.elim z⟩
end
end DQ

set_option Elab.async false
set_option linter.all false
set_option maxRecDepth 100000
set_option maxHeartbeats 1000000
namespace DQ
open PySem PySem.Spec PyProof.Rows L2
/-- the sorted facts -/
def sortF (fs : List Fact) : List Fact := fs.mergeSort (PySem.W.dataLe false Fact.d)
theorem sortF_len (fs : List Fact) : (sortF fs).length = fs.length := List.length_mergeSort _
theorem sort_map (zs : List (V × Fact)) : (zs.mergeSort (PySem.W.dataLe false fun z => z.2.d)).map (·.2) = sortF (zs.map (·.2)) :=
  List.map_mergeSort fun _ _ _ _ => rfl
def Fact.nums : Fact → List Int
  | .mark _ i => [i]
  | .link _ a b => [a, b]
theorem nil_read {σ : L2.St} {H : Hp} {Q : List V → Hp → Prop} (h : Q [] H) : tNil σ H Q := h
/-- len of a list or a tuple, its relation by name (for use inside a comprehension) -/
def rLenS (K : PySem.W.Frag) : List V → Hp → VK → Prop := fun xs H Q => ∃ p ys, xs = [V.ref p] ∧ (SqL K H p ys ∨ SqT K H p ys) ∧ Q (V.int (ys.length : Nat)) H
theorem stoAt_same {H H' : Hp} {v : V} {S : Store} (s : Same H H') (A : StoAt H v S) : StoAt H' v S := by
  obtain ⟨t, m, c, i, f, rs, e, h1, h2, h3, h4, h5, tp⟩ := A
  exact ⟨t, m, c, i, f, rs, e, s _ _ h1, s _ _ h2, s _ _ h3, s _ _ h4, s _ _ h5, tp.keep (tk_same s)⟩
theorem paired_mono {α β : Type} {R R' : α → β → Prop} (m : ∀ a b, R a b → R' a b) : ∀ {xs : List α} {ys : List β}, Paired R xs ys → Paired R' xs ys
  | _, _, .nil => .nil
  | _, _, .cons h t => .cons (m _ _ h) (paired_mono m t)
theorem paired_at {α β : Type} {R : α → β → Prop} : ∀ {xs : List α} {ys : List β}, Paired R xs ys → ∀ {i : Nat} {x : α}, xs[i]? = some x → ∃ y, ys[i]? = some y ∧ R x y
  | _, _, .nil, i, x, h => by simp at h
  | _, _, .cons r _, 0, x, h => by cases h; exact ⟨_, rfl, r⟩
  | _, _, .cons _ t, i + 1, x, h => paired_at t (by simpa using h)
/-- a comprehension whose items are told ahead -/
theorem lc_vals {J : It} {n : Nat} {G : Hp → Prop} {Y : Nat → Hp → V → Hp → Prop} (w : Walk J n G Y) {g : TG} {te : TE} {vs : List Nat} {σ : L2.St} {H1 : Hp} {D : Addr} {Qd : Hp → Prop} (bs : List V) (hn : bs.length = n) (few : n < sizeLine) (nD : H1 D = none)
    (hG : ∀ H, Same H1 H → G H) (hY : ∀ i H x H', Y i H x H' → Same H H')
    (hs : ∀ i x H H' b, i < n → bs[i]? = some b → Same H1 H → Y i H x H' → ∀ R : V → Hp → Prop, (∀ H4, Same H' H4 → R b H4) → g x (wipe σ vs) H' fun σ2 H2 => wipe σ2 vs = wipe σ vs ∧ te σ2 H2 R)
    (hd : ∀ H, Same H1 H → H D = some (.lst bs) → Qd H) (gm : ∀ x σ H (Q Q' : L2.St → Hp → Prop), (∀ σ H, Q σ H → Q' σ H) → g x σ H Q → g x σ H Q') :
    ∃ W : Nat → Nat → Hp → Prop, (∃ m, W 0 m (upd H1 D (.lst []))) ∧ ∀ i m H, W i m H →
      (J.stop i H ∧ Qd H) ∨ (J.go i H ∧ ∃ Nx : Hp → Prop, (∀ H', Nx H' → ∃ m', m' < m ∧ W (i + 1) m' H') ∧ ∀ x H', J.yld i H x H' → g x (wipe σ vs) H' fun σ2 H2 => wipe σ2 vs = wipe σ vs ∧ tYes σ2 H2 fun b H3 =>
        if b = true then te σ2 H3 fun y H4 => ∃ acc, H4 D = some (.lst acc) ∧ acc.length < sizeLine ∧ Nx (upd H4 D (.lst (acc ++ [y]))) else Nx H3) := by
  refine lc_it w (fun i H => H D = some (.lst (bs.take i)) ∧ Same H1 H) ⟨upd_same, same_new nD⟩ (fun i H _ p => hG H p.2) (fun i x H H' hi p y => ?_) fun H p => hd H p.2 (by rw [← hn, List.take_length] at p; exact p.1)
  obtain ⟨e, s⟩ := p
  have hb : bs[i]? = some bs[i] := List.getElem?_eq_getElem (by omega)
  refine (fun z => gm x _ _ _ _ (fun σ2 H2 z => ⟨z.1, z.2⟩) z) (hs i x H H' _ hi hb s y (fun y H4 => ∃ acc, H4 D = some (.lst acc) ∧ acc.length < sizeLine ∧ upd H4 D (.lst (acc ++ [y])) D = some (.lst (bs.take (i + 1))) ∧ Same H1 (upd H4 D (.lst (acc ++ [y])))) fun H4 s4 => ?_)
  have e4 := s4 _ _ (hY _ _ _ _ y _ _ e)
  refine ⟨_, e4, ?_, ?_, ?_⟩
  · rw [List.length_take]
    omega
  · rw [take_next hb]
    exact upd_same
  · exact same_upd ((s.trans (hY _ _ _ _ y)).trans s4) nD
/-- what a pair's turn asks, however it goes on -/
theorem gpair_mono {K : PySem.W.Frag} {i j : Nat} (v : V) (σ : L2.St) (H : Hp) (R R' : L2.St → Hp → Prop) (m : ∀ σ H, R σ H → R' σ H) (h : gTup K 2 (gCons (gName i) (gCons (gName j) gNil)) v σ H R) : gTup K 2 (gCons (gName i) (gCons (gName j) gNil)) v σ H R' := by
  obtain ⟨T, ys, e1, e2, e3, z1, r1, e4, z2, r2, e5, e6, h⟩ := h
  exact ⟨T, ys, e1, e2, e3, z1, r1, e4, z2, r2, e5, e6, m _ _ h⟩
def Fact.kind : Fact → Str
  | .mark _ _ => "mark"
  | .link _ _ _ => "link"
theorem fact_v (x : Fact) : x.v = .str x.kind :: .str x.word :: x.nums.map V.int := by cases x <;> rfl
theorem fact_cut (x : Fact) : cutV x.v none (some 2) = [.str x.kind, .str x.word] ∧ cutV x.v (some 2) none = x.nums.map V.int := by cases x <;> exact ⟨rfl, rfl⟩
theorem fact_len (x : Fact) : x.v.length = 3 ∨ x.v.length = 4 := by cases x <;> simp [Fact.v]
theorem nums_len (x : Fact) : x.nums.length ≤ 2 := by cases x <;> simp [Fact.nums]
theorem nums_in {S : Store} {x : Fact} (h : x.of S) : ∀ i ∈ x.nums, i ∈ S.items := fun i hi => by
  cases x with
  | mark m j => simp only [Fact.nums, List.mem_cons, List.not_mem_nil, or_false] at hi; rw [hi]; exact h.2
  | link c a b =>
    simp only [Fact.nums, List.mem_cons, List.not_mem_nil, or_false] at hi
    rcases hi with rfl | rfl
    · exact h.2.1
    · exact h.2.2
theorem pa_starK {X : Cx} {K : PySem.W.Frag} {e : Expr} {es : List Expr} {p : Pos} {te : TE} {t : TA} (hk : X.K = K) (he : PE X e te) (hr : PA X es t) (hs : starEach (.Starred e p :: es) X.env = (true, eval e X.env) :: starEach es X.env := by rfl) : PA X (.Starred e p :: es) (StX.tStar K te t) := by
  subst hk
  exact StX.pa_star he hr hs
theorem pi_tupK {X : Cx} {K : PySem.W.Frag} {tg l : Expr} {tl : TE} (hk : X.K = K) (h : PE X l tl) : PI X tg l (iTup K tl) := by
  subst hk
  exact pi_tup h
/-- a new store: neither it nor its parts were there -/
def NewSto (H H' : Hp) (v : V) (S : Store) : Prop := ∃ (a m c i f : Addr) (rs : List V), v = .ref a ∧ H' a = some (.tup [.str "store", .ref m, .ref c, .ref i, .ref f]) ∧ H' m = some (.lst (S.marks.map V.str)) ∧ H' c = some (.lst (S.columns.map V.str)) ∧ H' i = some (.lst (S.items.map V.int)) ∧ H' f = some (.lst rs) ∧ Tups H' rs (S.facts.map Fact.v) ∧
  H a = none ∧ H m = none ∧ H c = none ∧ H i = none ∧ H f = none ∧ m ≠ c ∧ m ≠ i ∧ m ≠ f ∧ c ≠ i ∧ c ≠ f ∧ i ≠ f
theorem NewSto.at {H H' : Hp} {v : V} {S : Store} (N : NewSto H H' v S) : StoAt H' v S := by
  obtain ⟨a, m, c, i, f, rs, e, h1, h2, h3, h4, h5, tp, _⟩ := N
  exact ⟨a, m, c, i, f, rs, e, h1, h2, h3, h4, h5, tp⟩
theorem NewSto.up {H H1 H' : Hp} {v : V} {S : Store} (s : Same H H1) (N : NewSto H1 H' v S) : NewSto H H' v S := by
  obtain ⟨a, m, c, i, f, rs, e, h1, h2, h3, h4, h5, tp, n1, n2, n3, n4, n5, ne⟩ := N
  exact ⟨a, m, c, i, f, rs, e, h1, h2, h3, h4, h5, tp, s.free n1, s.free n2, s.free n3, s.free n4, s.free n5, ne⟩
theorem keep_del {g : Addr} {H H' : Hp} (k : Keep g H H') : Same (del H g) (del H' g) := fun b o h => by
  by_cases e : b = g
  · rw [e] at h; simp [del] at h
  · rw [del_ne e] at h ⊢
    exact k b o e h
theorem keep_del2 {g D : Addr} {H H' : Hp} (k : ∀ b o, b ≠ g → b ≠ D → H b = some o → H' b = some o) : Same (del (del H g) D) (del (del H' g) D) := fun b o h => by
  by_cases e : b = D
  · rw [e] at h; simp [del] at h
  · rw [del_ne e] at h ⊢
    by_cases e2 : b = g
    · rw [e2] at h; simp [del] at h
    · rw [del_ne e2] at h ⊢
      exact k b o e2 e h
theorem del_le {D : Addr} {H : Hp} : Same (del H D) H := fun b o h => by
  by_cases e : b = D
  · rw [e] at h; simp [del] at h
  · rwa [del_ne e] at h
theorem paired_snoc {α β : Type} {R : α → β → Prop} {a : α} {b : β} (h : R a b) : ∀ {xs : List α} {ys : List β}, Paired R xs ys → Paired R (xs ++ [a]) (ys ++ [b])
  | _, _, .nil => .cons h .nil
  | _, _, .cons r t => .cons r (paired_snoc h t)
theorem small1000' {n : Nat} (h : n ≤ 1000) : n ≤ sizeLine := Nat.le_trans h (by decide)
theorem seq_new {K : PySem.W.Frag} {H H1 H2 : Hp} {a g : Addr} {xs : List V} (h : SqL K H a xs) (s : Same H H1) (n : H g = none) (k : Keep g H1 H2) : SqL K H2 a xs := by
  rcases h with (h | ⟨o, h⟩) | h
  · exact .inl (.inl (k _ _ (ne_of_none h n) (s _ _ h)))
  · exact .inl (.inr ⟨o, k _ _ (ne_of_none h n) (s _ _ h)⟩)
  · exact .inr h
theorem del_same' {g : Addr} {H : Hp} : del H g g = none := by simp [del]
end DQ

set_option Elab.async false
set_option linter.all false
set_option maxRecDepth 100000
set_option maxHeartbeats 1000000
namespace DQ
open PySem PySem.Spec PyProof.Rows L2
/-! ### edits -/
/-- two facts are one or not -/
def sameFact : (x y : Fact) → Decidable (x = y)
  | .mark m i, .mark n j => decidable_of_iff (m = n ∧ i = j) ⟨fun h => by rw [h.1, h.2], fun h => by injection h with a b; exact ⟨a, b⟩⟩
  | .link c a b, .link d e f => decidable_of_iff (c = d ∧ a = e ∧ b = f) ⟨fun h => by rw [h.1, h.2.1, h.2.2], fun h => by injection h with p q r; exact ⟨p, q, r⟩⟩
  | .mark _ _, .link _ _ _ => .isFalse fun h => by cases h
  | .link _ _ _, .mark _ _ => .isFalse fun h => by cases h
instance : DecidableEq Fact := sameFact
inductive Edit where
  | put (x : Fact)
  | take (x : Fact)
  | add (i : Int)
  | drop (i : Int)
def Edit.word : Edit → Str
  | .put _ => "put"
  | .take _ => "take"
  | .add _ => "add"
  | .drop _ => "drop"
def Edit.back : Edit → Edit
  | .put x => .take x
  | .take x => .put x
  | .add i => .drop i
  | .drop i => .add i
def sortI (ns : List Int) : List Int := ns.mergeSort fun a b => decide (a ≤ b)
def ofB (S : Store) : Fact → Bool
  | .mark m i => decide (m ∈ S.marks) && decide (i ∈ S.items)
  | .link c a b => decide (c ∈ S.columns) && (decide (a ∈ S.items) && decide (b ∈ S.items))
def leads (x y : Fact) : Bool := match x, y with
  | .link c a b, .link c' a' b' => decide (c' = c) && (decide (a' = a) || decide (b' = b))
  | _, _ => false
def ledB (fs : List Fact) (x : Fact) : Bool := fs.any fun y => leads x y
def hasI (fs : List Fact) (i : Int) : Bool := fs.any fun y => decide (i ∈ y.nums)
/-- the store behind an edit, if it can be made -/
def step (S : Store) : Edit → Option Store
  | .put x => if (ofB S x && !decide (x ∈ S.facts) && !ledB S.facts x) = true then some { S with facts := sortF (S.facts ++ [x]) } else none
  | .take x => if x ∈ S.facts then some { S with facts := S.facts.filter fun y => decide (y ≠ x) } else none
  | .add i => if i ∈ S.items then none else some { S with items := sortI (S.items ++ [i]) }
  | .drop i => if (decide (i ∈ S.items) && !hasI S.facts i) = true then some { S with items := S.items.filter fun y => decide (y ≠ i) } else none
theorem ofB_iff {S : Store} {x : Fact} : ofB S x = true ↔ x.of S := by
  cases x <;> simp [ofB, Fact.of]
/-! sorted lists -/
theorem dlt_asym {x y : PyData} (h : PySem.W.dataLt x y = true) : PySem.W.dataLt y x = false := by
  cases q : PySem.W.dataLt y x with
  | false => rfl
  | true => exact absurd (lex_trans _ _ _ h q) (by rw [lex_irrefl]; decide)
theorem rise_eq {l m : List Fact} (p : l.Perm m) (hl : l.Pairwise fun x y => PySem.W.dataLt x.d y.d = true) (hm : m.Pairwise fun x y => PySem.W.dataLt x.d y.d = true) : l = m :=
  List.Perm.eq_of_pairwise (le := fun x y : Fact => PySem.W.dataLt x.d y.d = true) (fun a b _ _ h1 h2 => absurd h2 (by rw [dlt_asym h1]; decide)) hl hm p
theorem rise_nodup {l : List Fact} (hl : l.Pairwise fun x y => PySem.W.dataLt x.d y.d = true) : l.Nodup := hl.imp fun {a b} h e => by
  rw [e] at h
  exact absurd h (by rw [dlt_asym h]; decide)
theorem sortF_perm (fs : List Fact) : (sortF fs).Perm fs := List.mergeSort_perm _ _
theorem sortF_rise {fs : List Fact} (nd : fs.Nodup) : (sortF fs).Pairwise fun x y => PySem.W.dataLt x.d y.d = true := by
  have e : ((fs.map fun f => (V.non, f)).map (·.2)) = fs := by rw [List.map_map]; exact List.map_id _
  have z := sorted_rise (zs := fs.map fun f => (V.non, f)) (by rw [e]; exact nd)
  rwa [sort_map, e] at z
theorem sortF_id {fs : List Fact} (h : fs.Pairwise fun x y => PySem.W.dataLt x.d y.d = true) : sortF fs = fs := rise_eq (sortF_perm fs) (sortF_rise (rise_nodup h)) h
theorem sortI_perm (ns : List Int) : (sortI ns).Perm ns := List.mergeSort_perm _ _
theorem sortI_le (ns : List Int) : (sortI ns).Pairwise (· ≤ ·) :=
  (List.pairwise_mergeSort (le := fun a b : Int => decide (a ≤ b)) (fun a b c h1 h2 => decide_eq_true (Int.le_trans (of_decide_eq_true h1) (of_decide_eq_true h2))) (fun a b => by
    rcases Int.le_total a b with h | h
    · rw [decide_eq_true h]; rfl
    · rw [decide_eq_true h, Bool.or_true]) ns).imp fun h => of_decide_eq_true h
theorem sortI_of {ns ms : List Int} (p : ms.Perm ns) (h : ms.Pairwise (· ≤ ·)) : ms = sortI ns :=
  List.Perm.eq_of_pairwise (le := fun x y : Int => x ≤ y) (fun _ _ _ _ h1 h2 => Int.le_antisymm h1 h2) h (sortI_le ns) (p.trans (sortI_perm ns).symm)
theorem sortI_id {ns : List Int} (h : ns.Pairwise (· < ·)) : sortI ns = ns := (sortI_of (List.Perm.refl _) (h.imp fun h => Int.le_of_lt h)).symm
theorem sortI_lt {ns : List Int} (nd : ns.Nodup) : (sortI ns).Pairwise (· < ·) :=
  (List.pairwise_and_iff.mpr ⟨sortI_le ns, (sortI_perm ns).nodup_iff.mpr nd⟩).imp fun {a b} h => by have h1 := h.1; have h2 := h.2; omega
theorem lt_eq {l m : List Int} (p : l.Perm m) (hl : l.Pairwise (· < ·)) (hm : m.Pairwise (· < ·)) : l = m :=
  List.Perm.eq_of_pairwise (le := fun x y : Int => x < y) (fun a b _ _ h1 h2 => absurd h2 (by omega)) hl hm p
/-! few facts -/
def Fact.key : Fact → Str × Int
  | .mark m i => (m, i)
  | .link c a _ => (c, a)
theorem no_both {m : Nat} {S : Store} (D : Drawn m S) {x : Str} (h1 : x ∈ S.marks) (h2 : x ∈ S.columns) : False := by
  obtain ⟨k, _, ek⟩ := D.marks
  obtain ⟨j, _, _, ej⟩ := D.columns
  rw [ek] at h1
  rw [ej] at h2
  have h1 := List.mem_of_mem_take h1
  have h2 := List.mem_of_mem_take h2
  simp only [List.mem_cons, List.not_mem_nil, or_false] at h1 h2
  rcases h1 with rfl | rfl | rfl <;> rcases h2 with h | h <;> revert h <;> decide +kernel
/-- a drawn store, whatever its number of facts -/
structure Drawn0 (m : Nat) (S : Store) : Prop where
  marks : ∃ k, k ≤ 3 ∧ S.marks = (["red", "blue", "gold"] : List Str).take k
  columns : ∃ k, 1 ≤ k ∧ k ≤ 2 ∧ S.columns = (["next", "below"] : List Str).take k
  items : Rising S.items
  few : S.items.length ≤ m
  rise : S.facts.Pairwise fun x y => PySem.W.dataLt x.d y.d = true
  facts : ∀ x ∈ S.facts, x.of S
  links : ∀ c, OneToOne S.items (linksOf c S.facts)
theorem no_both0 {m : Nat} {S : Store} (D : Drawn0 m S) {x : Str} (h1 : x ∈ S.marks) (h2 : x ∈ S.columns) : False := by
  obtain ⟨k, _, ek⟩ := D.marks
  obtain ⟨j, _, _, ej⟩ := D.columns
  rw [ek] at h1
  rw [ej] at h2
  have h1 := List.mem_of_mem_take h1
  have h2 := List.mem_of_mem_take h2
  simp only [List.mem_cons, List.not_mem_nil, or_false] at h1 h2
  rcases h1 with rfl | rfl | rfl <;> rcases h2 with h | h <;> revert h <;> decide +kernel
theorem Drawn0.fewFacts {m : Nat} {S : Store} (D : Drawn0 m S) : S.facts.length ≤ 5 * m := by
  have lm : S.marks.length ≤ 3 := by
    obtain ⟨k, _, ek⟩ := D.marks
    rw [ek, List.length_take]
    exact Nat.min_le_right _ _
  have lc : S.columns.length ≤ 2 := by
    obtain ⟨k, _, _, ek⟩ := D.columns
    rw [ek, List.length_take]
    exact Nat.min_le_right _ _
  have nd : (S.facts.map Fact.key).Nodup := by
    refine List.pairwise_map.mpr ((List.pairwise_and_iff.mpr ⟨rise_nodup D.rise, List.pairwise_of_forall_mem_list fun a ha b hb => (⟨ha, hb⟩ : a ∈ S.facts ∧ b ∈ S.facts)⟩).imp fun {x y} h e => ?_)
    obtain ⟨ne, hx, hy⟩ := h
    have ox := D.facts x hx
    have oy := D.facts y hy
    cases x with
    | mark p i =>
      cases y with
      | mark q j =>
        injection e with e1 e2
        exact ne (by rw [e1, e2])
      | link c a b =>
        injection e with e1 e2
        rw [← e1] at oy
        exact no_both0 D ox.1 oy.1
    | link c a b =>
      cases y with
      | mark q j =>
        injection e with e1 e2
        rw [e1] at ox
        exact no_both0 D oy.1 ox.1
      | link c' a' b' =>
        injection e with e1 e2
        subst e1 e2
        exact ne (by rw [one_place (D.links c).1 (mem_links hx) (mem_links hy)])
  have sub : ∀ k ∈ S.facts.map Fact.key, k ∈ (S.marks ++ S.columns).flatMap fun w => S.items.map fun i => (w, i) := fun k hk => by
    obtain ⟨x, hx, rfl⟩ := List.mem_map.mp hk
    have ox := D.facts x hx
    refine List.mem_flatMap.mpr ?_
    cases x with
    | mark p i => exact ⟨p, List.mem_append_left _ ox.1, List.mem_map.mpr ⟨i, ox.2, rfl⟩⟩
    | link c a b => exact ⟨c, List.mem_append_right _ ox.1, List.mem_map.mpr ⟨a, ox.2.1, rfl⟩⟩
  have l := nd.length_le_of_subset sub
  rw [List.length_map, List.length_flatMap] at l
  have e : ((S.marks ++ S.columns).map fun w => (S.items.map fun i => (w, i)).length).sum = (S.marks ++ S.columns).length * S.items.length := by
    generalize S.marks ++ S.columns = ws
    induction ws with
    | nil => simp
    | cons w r ih => rw [List.map_cons, List.sum_cons, ih, List.length_map, List.length_cons, Nat.add_mul, Nat.one_mul, Nat.add_comm]
  rw [e, List.length_append] at l
  have := Nat.mul_le_mul (show S.marks.length + S.columns.length ≤ 5 by omega) D.few
  omega
theorem Drawn0.full {m : Nat} {S : Store} (D : Drawn0 m S) (hm : m ≤ 200) : Drawn m S := ⟨D.marks, D.columns, D.items, D.few, by have := D.fewFacts; omega, D.rise, D.facts, D.links⟩
theorem Drawn.zero {m : Nat} {S : Store} (D : Drawn m S) : Drawn0 m S := ⟨D.marks, D.columns, D.items, D.few, D.rise, D.facts, D.links⟩
end DQ

set_option Elab.async false
set_option linter.all false
set_option maxRecDepth 100000
set_option maxHeartbeats 1000000
namespace DQ
open PySem PySem.Spec PyProof.Rows L2
theorem mem_links_inv {c : Str} {fs : List Fact} {a b : Int} (h : (a, b) ∈ linksOf c fs) : Fact.link c a b ∈ fs := by
  obtain ⟨x, hx, e⟩ := List.mem_filterMap.mp h
  cases x with
  | mark m i => cases e
  | link c' p q =>
    by_cases ec : c' = c
    · rw [show Fact.on c (.link c' p q) = some (p, q) from if_pos ec] at e
      cases e
      rw [← ec]
      exact hx
    · rw [show Fact.on c (.link c' p q) = none from if_neg ec] at e
      cases e
theorem led_no {fs : List Fact} {x : Fact} (h : ledB fs x = false) : ∀ y ∈ fs, leads x y = false := fun y hy => by
  cases e : leads x y with
  | false => rfl
  | true => exact absurd (List.any_eq_true.mpr ⟨y, hy, e⟩) (by rw [show fs.any (fun y => leads x y) = false from h]; decide)
theorem led_of {fs : List Fact} {x : Fact} (h : ∀ y ∈ fs, leads x y = false) : ledB fs x = false := by
  cases e : ledB fs x with
  | false => rfl
  | true =>
    obtain ⟨y, hy, z⟩ := List.any_eq_true.mp (show fs.any (fun y => leads x y) = true from e)
    rw [h y hy] at z
    cases z
theorem links_one {c : Str} {x : Fact} : linksOf c [x] = match Fact.on c x with | some p => [p] | none => [] := by
  unfold linksOf
  rw [List.filterMap_cons]
  cases Fact.on c x <;> rfl
theorem oneToOne_put {S : Store} {x : Fact} (ox : x.of S) (nl : ∀ y ∈ S.facts, leads x y = false) (oo : ∀ c, OneToOne S.items (linksOf c S.facts)) : ∀ c, OneToOne S.items (linksOf c (S.facts ++ [x])) := fun c => by
  rw [links_append, links_one]
  cases x with
  | mark m i => rw [show Fact.on c (.mark m i) = none from rfl, List.append_nil]; exact oo c
  | link c' a b =>
    by_cases ec : c' = c
    · subst ec
      rw [show Fact.on c' (.link c' a b) = some (a, b) from if_pos rfl]
      have n : ∀ p ∈ linksOf c' S.facts, p.1 ≠ a ∧ p.2 ≠ b := fun p hp => by
        have z := nl _ (mem_links_inv (a := p.1) (b := p.2) hp)
        simp only [leads, decide_true, Bool.true_and, Bool.or_eq_false_iff, decide_eq_false_iff_not] at z
        exact z
      refine ⟨?_, ?_, fun p hp => ?_⟩
      · rw [List.map_append]
        refine List.nodup_append.mpr ⟨(oo c').1, (by simp), fun y hy z hz e => ?_⟩
        obtain ⟨p, hp, rfl⟩ := List.mem_map.mp hy
        simp only [List.map_cons, List.map_nil, List.mem_singleton] at hz
        exact (n p hp).1 (e.trans hz)
      · rw [List.map_append]
        refine List.nodup_append.mpr ⟨(oo c').2.1, (by simp), fun y hy z hz e => ?_⟩
        obtain ⟨p, hp, rfl⟩ := List.mem_map.mp hy
        simp only [List.map_cons, List.map_nil, List.mem_singleton] at hz
        exact (n p hp).2 (e.trans hz)
      · rcases List.mem_append.mp hp with h | h
        · exact (oo c').2.2 p h
        · rw [List.mem_singleton] at h
          rw [h]
          exact ox.2
    · rw [show Fact.on c (.link c' a b) = none from if_neg ec, List.append_nil]
      exact oo c
/-- the same facts of other items -/
theorem of_items {S : Store} {ns : List Int} {fs : List Fact} {x : Fact} (h : x.of S) (hn : ∀ i ∈ x.nums, i ∈ ns) : x.of ⟨S.marks, S.columns, ns, fs⟩ := by
  cases x with
  | mark m i => exact ⟨h.1, hn i (by simp [Fact.nums])⟩
  | link c a b => exact ⟨h.1, hn a (by simp [Fact.nums]), hn b (by simp [Fact.nums])⟩
theorem oneToOne_items {ns ms : List Int} {ps : List (Int × Int)} (h : OneToOne ns ps) (hn : ∀ p ∈ ps, p.1 ∈ ms ∧ p.2 ∈ ms) : OneToOne ms ps := ⟨h.1, h.2.1, hn⟩
theorem put_iff {S S' : Store} {x : Fact} (h : step S (.put x) = some S') : x.of S ∧ x ∉ S.facts ∧ (∀ y ∈ S.facts, leads x y = false) ∧ S' = { S with facts := sortF (S.facts ++ [x]) } := by
  simp only [step] at h
  split at h
  case isTrue c =>
    simp only [Bool.and_eq_true, Bool.not_eq_true', decide_eq_false_iff_not] at c
    exact ⟨ofB_iff.mp c.1.1, c.1.2, led_no c.2, (Option.some.inj h).symm⟩
  case isFalse => cases h
theorem hasI_no {fs : List Fact} {i : Int} (h : hasI fs i = false) : ∀ y ∈ fs, i ∉ y.nums := fun y hy hi => by
  have z : hasI fs i = true := List.any_eq_true.mpr ⟨y, hy, decide_eq_true hi⟩
  rw [z] at h
  cases h
theorem step_drawn {m : Nat} (hm : m ≤ 150) {S S' : Store} (D : Drawn m S) {e : Edit} (h : step S e = some S') (ha : ∀ i, e = .add i → 0 ≤ i ∧ i ≤ 1000000000) : Drawn (m + 1) S' := by
  have few := D.few
  refine Drawn0.full (m := m + 1) ?_ (by omega)
  cases e with
  | put x =>
    obtain ⟨ox, nx, nl, rfl⟩ := put_iff h
    have nd : (S.facts ++ [x]).Nodup := List.nodup_append.mpr ⟨rise_nodup D.rise, (by simp), fun y hy z hz e => by
      rw [List.mem_singleton] at hz
      exact nx (by rw [← hz, ← e]; exact hy)⟩
    refine ⟨D.marks, D.columns, D.items, by show S.items.length ≤ m + 1; omega, sortF_rise nd, fun y hy => ?_, fun c => (oneToOne_put ox nl D.links c).perm (links_perm (sortF_perm _))⟩
    have z := (sortF_perm _).subset hy
    rcases List.mem_append.mp z with z | z
    · exact of_items (D.facts y z) (nums_in (D.facts y z))
    · rw [List.mem_singleton] at z
      rw [z]
      exact of_items ox (nums_in ox)
  | take x =>
    simp only [step] at h
    split at h
    case isTrue c =>
      cases h
      refine ⟨D.marks, D.columns, D.items, by show S.items.length ≤ m + 1; omega, D.rise.sublist List.filter_sublist, fun y hy => ?_, fun c => (D.links c).sub (List.Sublist.filterMap _ List.filter_sublist)⟩
      have z := (List.mem_filter.mp hy).1
      exact of_items (D.facts y z) (nums_in (D.facts y z))
    case isFalse => cases h
  | add i =>
    simp only [step] at h
    split at h
    case isTrue => cases h
    case isFalse c =>
      cases h
      have bd := ha i rfl
      have nd : (S.items ++ [i]).Nodup := List.nodup_append.mpr ⟨D.items.nodup, (by simp), fun y hy z hz e => by
        rw [List.mem_singleton] at hz
        exact c (by rw [← hz, ← e]; exact hy)⟩
      have sub : ∀ y ∈ S.items, y ∈ sortI (S.items ++ [i]) := fun y hy => (sortI_perm _).symm.subset (List.mem_append_left _ hy)
      refine ⟨D.marks, D.columns, ⟨sortI_lt nd, fun y hy => ?_⟩, ?_, D.rise, fun y hy => of_items (D.facts y hy) fun j hj => sub j (nums_in (D.facts y hy) j hj), fun c => oneToOne_items (D.links c) fun p hp => ⟨sub _ ((D.links c).2.2 p hp).1, sub _ ((D.links c).2.2 p hp).2⟩⟩
      · rcases List.mem_append.mp ((sortI_perm _).subset hy) with z | z
        · exact D.items.2 y z
        · rw [List.mem_singleton] at z
          rw [z]
          exact bd
      · show (sortI _).length ≤ m + 1
        rw [(sortI_perm _).length_eq, List.length_append, List.length_singleton]
        omega
  | drop i =>
    simp only [step] at h
    split at h
    case isTrue c =>
      cases h
      simp only [Bool.and_eq_true, decide_eq_true_eq, Bool.not_eq_true'] at c
      have no := hasI_no c.2
      have sub : ∀ y ∈ S.facts, ∀ j ∈ y.nums, j ∈ S.items.filter fun z => decide (z ≠ i) := fun y hy j hj => List.mem_filter.mpr ⟨nums_in (D.facts y hy) j hj, decide_eq_true fun e => no y hy (by rw [← e]; exact hj)⟩
      refine ⟨D.marks, D.columns, ⟨D.items.1.sublist List.filter_sublist, fun y hy => D.items.2 y (List.mem_filter.mp hy).1⟩, Nat.le_trans (List.length_filter_le _ _) (by omega), D.rise, fun y hy => of_items (D.facts y hy) (sub y hy), fun c => oneToOne_items (D.links c) fun p hp => ?_⟩
      have z := mem_links_inv (a := p.1) (b := p.2) hp
      exact ⟨sub _ z p.1 (by simp [Fact.nums]), sub _ z p.2 (by simp [Fact.nums])⟩
    case isFalse => cases h
theorem filter_all {α : Type} {p : α → Bool} {l : List α} (h : ∀ x ∈ l, p x = true) : l.filter p = l := List.filter_eq_self.mpr h
theorem leads_eq {ns : List Int} {fs : List Fact} (oo : ∀ c, OneToOne ns (linksOf c fs)) {x y : Fact} (hx : x ∈ fs) (hy : y ∈ fs) (h : leads x y = true) : y = x := by
  cases x with
  | mark p i => cases y <;> cases h
  | link c a b =>
    cases y with
    | mark p i => cases h
    | link c' a' b' =>
      simp only [leads, Bool.and_eq_true, decide_eq_true_eq, Bool.or_eq_true] at h
      obtain ⟨rfl, q⟩ := h
      rcases q with rfl | rfl
      · rw [one_place (oo c').1 (mem_links hy) (mem_links hx)]
      · rw [one_place2 (oo c').2.1 (mem_links hy) (mem_links hx)]
theorem step_back {m : Nat} {S S' : Store} (D : Drawn m S) {e : Edit} (h : step S e = some S') : step S' e.back = some S := by
  cases e with
  | put x =>
    obtain ⟨ox, nx, nl, rfl⟩ := put_iff h
    have nd : (S.facts ++ [x]).Nodup := List.nodup_append.mpr ⟨rise_nodup D.rise, (by simp), fun y hy z hz e => by
      rw [List.mem_singleton] at hz
      exact nx (by rw [← hz, ← e]; exact hy)⟩
    show (if x ∈ sortF (S.facts ++ [x]) then some { S with facts := (sortF (S.facts ++ [x])).filter fun y => decide (y ≠ x) } else none) = some S
    rw [if_pos ((sortF_perm _).symm.subset (List.mem_append_right _ (List.mem_singleton.mpr rfl)))]
    have e : (sortF (S.facts ++ [x])).filter (fun y => decide (y ≠ x)) = S.facts := by
      refine rise_eq ?_ ((sortF_rise nd).sublist List.filter_sublist) D.rise
      refine ((sortF_perm _).filter _).trans ?_
      have fa : S.facts.filter (fun y => decide (y ≠ x)) = S.facts := filter_all fun y hy => decide_eq_true fun e => nx (by rw [← e]; exact hy)
      rw [List.filter_append, fa]
      simp
    rw [e]
  | take x =>
    simp only [step] at h
    split at h
    case isTrue c =>
      cases h
      show (if (ofB _ x && !decide (x ∈ _) && !ledB _ x) = true then some _ else none) = some S
      have ox := D.facts x c
      have o2 : ofB { S with facts := S.facts.filter fun y => decide (y ≠ x) } x = true := ofB_iff.mpr (of_items ox (nums_in ox))
      have n2 : decide (x ∈ S.facts.filter fun y => decide (y ≠ x)) = false := decide_eq_false fun z => absurd (List.mem_filter.mp z).2 (by simp)
      have nc := noClash_of D.links
      have l2 : ledB (S.facts.filter fun y => decide (y ≠ x)) x = false := led_of fun y hy => by
        obtain ⟨y1, y2⟩ := List.mem_filter.mp hy
        have ne : y ≠ x := of_decide_eq_true y2
        cases q : leads x y with
        | false => rfl
        | true => exact absurd (leads_eq D.links c y1 q) ne
      rw [o2, n2, l2]
      show some { S with facts := sortF (S.facts.filter (fun y => decide (y ≠ x)) ++ [x]) } = some S
      have nd := rise_nodup D.rise
      have pm : (S.facts.filter (fun y => decide (y ≠ x)) ++ [x]).Perm S.facts := by
        refine (List.perm_append_comm).trans ?_
        refine ((List.perm_ext_iff_of_nodup ?_ nd).mpr fun y => ?_)
        · refine List.nodup_cons.mpr ⟨fun z => absurd (List.mem_filter.mp z).2 (by simp), nd.sublist List.filter_sublist⟩
        · rw [List.singleton_append, List.mem_cons, List.mem_filter]
          constructor
          · rintro (rfl | h)
            · exact c
            · exact h.1
          · intro hy
            by_cases e : y = x
            · exact .inl e
            · exact .inr ⟨hy, decide_eq_true e⟩
      rw [rise_eq ((sortF_perm _).trans pm) (sortF_rise (pm.symm.nodup_iff.mp nd)) D.rise]
    case isFalse => cases h
  | add i =>
    simp only [step] at h
    split at h
    case isTrue => cases h
    case isFalse c =>
      cases h
      have nd : (S.items ++ [i]).Nodup := List.nodup_append.mpr ⟨D.items.nodup, (by simp), fun y hy z hz e => by
        rw [List.mem_singleton] at hz
        exact c (by rw [← hz, ← e]; exact hy)⟩
      show (if (decide (i ∈ sortI (S.items ++ [i])) && !hasI S.facts i) = true then some { S with items := (sortI (S.items ++ [i])).filter fun y => decide (y ≠ i) } else none) = some S
      have h1 : decide (i ∈ sortI (S.items ++ [i])) = true := decide_eq_true ((sortI_perm _).symm.subset (List.mem_append_right _ (List.mem_singleton.mpr rfl)))
      have h2 : hasI S.facts i = false := by
        cases q : hasI S.facts i with
        | false => rfl
        | true =>
          obtain ⟨y, hy, z⟩ := List.any_eq_true.mp (show S.facts.any (fun y => decide (i ∈ y.nums)) = true from q)
          exact absurd (nums_in (D.facts y hy) i (of_decide_eq_true z)) c
      rw [h1, h2]
      have e : (sortI (S.items ++ [i])).filter (fun y => decide (y ≠ i)) = S.items := by
        refine lt_eq ?_ ((sortI_lt nd).sublist List.filter_sublist) D.items.1
        refine ((sortI_perm _).filter _).trans ?_
        have fa : S.items.filter (fun y => decide (y ≠ i)) = S.items := filter_all fun y hy => decide_eq_true fun e => c (by rw [← e]; exact hy)
        rw [List.filter_append, fa]
        simp
      show some { S with items := (sortI (S.items ++ [i])).filter fun y => decide (y ≠ i) } = some S
      rw [e]
  | drop i =>
    simp only [step] at h
    split at h
    case isTrue c =>
      cases h
      simp only [Bool.and_eq_true, decide_eq_true_eq, Bool.not_eq_true'] at c
      show (if i ∈ S.items.filter (fun y => decide (y ≠ i)) then none else some { S with items := sortI (S.items.filter (fun y => decide (y ≠ i)) ++ [i]) }) = some S
      rw [if_neg (fun z => absurd (List.mem_filter.mp z).2 (by simp))]
      have nd := D.items.nodup
      have pm : (S.items.filter (fun y => decide (y ≠ i)) ++ [i]).Perm S.items := by
        refine (List.perm_append_comm).trans ?_
        refine ((List.perm_ext_iff_of_nodup ?_ nd).mpr fun y => ?_)
        · refine List.nodup_cons.mpr ⟨fun z => absurd (List.mem_filter.mp z).2 (by simp), nd.sublist List.filter_sublist⟩
        · rw [List.singleton_append, List.mem_cons, List.mem_filter]
          constructor
          · rintro (rfl | h)
            · exact c.1
            · exact h.1
          · intro hy
            by_cases e : y = i
            · exact .inl e
            · exact .inr ⟨hy, decide_eq_true e⟩
      rw [lt_eq ((sortI_perm _).trans pm) (sortI_lt (pm.symm.nodup_iff.mp nd)) D.items.1]
    case isFalse => cases h
end DQ

set_option Elab.async false
set_option linter.all false
set_option maxRecDepth 100000
set_option maxHeartbeats 4000000
namespace DQ
open PySem PySem.Spec PyProof.Rows L2
abbrev sInit (i : Nat) : Stmt := inClass (topS i) 0
/-- what the written part says of an own error class with a field -/
structure ErrAt (K : PySem.W.Frag) (mg : Str → Option Value) (name qual : Str) (st : Stmt) (C : Addr) : Prop where
  g : mg name = some (.ref C)
  T : OexC K C
  xf : XfC K C
  noV : PySem.W.findIn K (.ref C) "value" = some none
  er : ErrC K C
  eq : PySem.W.findIn K (.ref C) "__eq__" = some (some (.builtin "object.__eq__"))
  init : ∃ (fI : Addr) (fd : FuncData), PySem.W.findIn K (.ref C) "__init__" = some (some (.ref fI)) ∧ PySem.W.typeIn K (.ref fI) = some (.type "function") ∧ FunD K "__init__" qual (defArgs st) (defBody st) (defScope st) [V.non] [] fI fd
def spInit (K : PySem.W.Frag) : Sp := fun vs H Q _ => ∃ (a C : Addr) (v : V), vs = [.ref a, v] ∧ OexC K C ∧ PySem.W.findIn K (.ref C) "value" = some none ∧ H a = some (exo a C none) ∧ ∀ d, H d = none → d ≠ a → Q .non (upd (upd H d (exd d [("value", v)])) a (exo a C (some d)))
def iA (p1 p2 p3 : Pos) : Arguments := { posonlyargs := [], args := [{ arg := "self", annotation := none, pos := p1 }, { arg := "value", annotation := none, pos := p2 }], vararg := none, kwonlyargs := [], kw_defaults := [], kwarg := none, defaults := [.Constant .none 0 p3] }
def iB (q1 q2 q3 q4 : Pos) : List Stmt := [.Assign [.Attribute (.Name "self" q1) "value" q2] (.Name "value" q3) q4]
def iS : Scope := { kind := .function, names := [("self", .local), ("value", .local)], isGenerator := false, isCoroutine := false, more := [] }
/-- the one text that all these __init__ have -/
def InitText (st : Stmt) : Prop := ∃ p1 p2 p3 q1 q2 q3 q4 : Pos, defArgs st = iA p1 p2 p3 ∧ defBody st = iB q1 q2 q3 q4 ∧ defScope st = iS
section
variable {P : Program} {w : World} {K : PySem.W.Frag} {mg : Str → Option Value} {base : Heap} {st : Stmt} {qual : Str} {fI : Addr} {fd : FuncData}
theorem scInit : FnScope ["self", "value"] ["self", "value"] iS := ⟨rfl, rfl, rfl, by decide +kernel, rfl, by decide +kernel, by decide +kernel⟩
theorem ok_init (t : InitText st) (F : FunD K "__init__" qual (defArgs st) (defBody st) (defScope st) [V.non] [] fI fd) : FnOk P w K mg base CX0 1 fI fd ["self", "value"] (spInit K) := by
  obtain ⟨p1, p2, p3, q1, q2, q3, q4, e1, e2, e3⟩ := t
  rw [e1, e2, e3] at F
  refine F.ok scInit (fun vs H Q E h => ?_) (fun cdv A outer s H vs Q E hr h => ?_)
  · obtain ⟨a, C, v, rfl, _⟩ := h
    rfl
  obtain ⟨a, C, v, rfl, T, no, ea, q⟩ := h
  refine ⟨_, PSs.nox (pss_one (ps_ost (pv 0) (pv 1))), ?_⟩
  exact ⟨_, rfl, _, rfl, a, C, rfl, T, no, .inl ⟨ea, fun d hd ne => q d hd ne⟩⟩
theorem binds_two (t : InitText st) (F : FunD K "__init__" qual (defArgs st) (defBody st) (defScope st) [V.non] [] fI fd) : Binds K fd ["self", "value"] [] := by
  obtain ⟨p1, p2, p3, q1, q2, q3, q4, e1, e2, e3⟩ := t
  rw [e1, e2, e3] at F
  obtain ⟨ds, r, b⟩ := F.binds1 (ps := ["self", "value"]) 2 1 (by simp) rfl fun T kV doc pm an cdv ct us its l1 l2 => match us, l1, its, l2 with
    | [_, _], _, [_], _ => ⟨_, rfl, rfl⟩
  cases r
  exact b
theorem binds_one (t : InitText st) (F : FunD K "__init__" qual (defArgs st) (defBody st) (defScope st) [V.non] [] fI fd) : ∃ ds, Vals [V.non] ds ∧ Binds K fd ["self", "value"] ds := by
  obtain ⟨p1, p2, p3, q1, q2, q3, q4, e1, e2, e3⟩ := t
  rw [e1, e2, e3] at F
  obtain ⟨ds, r, b⟩ := F.binds1 (ps := ["self", "value"]) 1 0 (by simp) rfl fun T kV doc pm an cdv ct us its l1 l2 => match us, l1, its, l2 with
    | [_], _, [_], _ => ⟨_, rfl, rfl⟩
  exact ⟨ds, r, b⟩
theorem binds_kw (t : InitText st) (F : FunD K "__init__" qual (defArgs st) (defBody st) (defScope st) [V.non] [] fI fd) : KBn K fd ["self", "value"] 1 ["value"] (fun us ws => us ++ ws) (fun vs zs => vs ++ zs) := by
  obtain ⟨p1, p2, p3, q1, q2, q3, q4, e1, e2, e3⟩ := t
  rw [e1, e2, e3] at F
  obtain ⟨its, b⟩ := F.kbindsD (ps := ["self", "value"]) 1 ["value"] (fun us _ ws => us ++ ws) (by simp) (fun r1 _ r3 => r1.append r3) fun T kV doc pm an cdv ct us its ws l1 l2 l3 => match us, l1, its, l2, ws, l3 with
    | [_], _, [_], _, [_], _ => ⟨_, rfl, rfl⟩
  exact ⟨b.to, b.rel⟩
/-- a made error: at a, of the class at C, value in its field -/
def Made (H : Hp) (a C : Addr) (v : V) : Prop := ∃ d, a ≠ d ∧ H a = some (exo a C (some d)) ∧ H d = some (exd d [("value", v)])
theorem Made.same {H H' : Hp} {a C : Addr} {v : V} (m : Made H a C v) (s : Same H H') : Made H' a C v := by
  obtain ⟨d, ne, e1, e2⟩ := m
  exact ⟨d, ne, s _ _ e1, s _ _ e2⟩
end
theorem made_same {H1 : Hp} {a d C : Addr} {v : V} (ha : H1 a = none) (hd : upd H1 a (exo a C none) d = none) (ne : d ≠ a) : Same H1 (upd (upd (upd H1 a (exo a C none)) d (exd d [("value", v)])) a (exo a C (some d))) ∧ Made (upd (upd (upd H1 a (exo a C none)) d (exd d [("value", v)])) a (exo a C (some d))) a C v := by
  have hd1 : H1 d = none := by
    rw [upd_ne ne] at hd
    exact hd
  refine ⟨fun b o q => ?_, d, ne.symm, upd_same, ?_⟩
  · rw [upd_ne (ne_of_none q ha), upd_ne (ne_of_none q hd1), upd_ne (ne_of_none q ha)]
    exact q
  · rw [upd_ne ne, upd_same]
/-- what making an error asks, by what is wanted of it -/
theorem init_read {K : PySem.W.Frag} {C : Addr} {H1 : Hp} {v : V} {Q : VK} (T : OexC K C) (noV : PySem.W.findIn K (.ref C) "value" = some none) (h : ∀ a H2, Same H1 H2 → H1 a = none → Made H2 a C v → Q (.ref a) H2) :
    ∀ a, H1 a = none → spInit K [.ref a, v] (upd H1 a (exo a C none)) (fun v H2 => v = .non ∧ Q (.ref a) H2) (fun _ _ _ => False) := fun a ha =>
  ⟨a, C, v, rfl, T, noV, upd_same, fun d hd ne => ⟨rfl, h a _ (made_same ha hd ne).1 ha (made_same ha hd ne).2⟩⟩
/-- the rules at hand for one class -/
structure ErrUse (P : Program) (w : World) (K : PySem.W.Frag) (mg : Str → Option Value) (base : Heap) (name : Str) (C : Addr) : Prop where
  g : mg name = some (.ref C)
  T : OexC K C
  xf : XfC K C
  noV : PySem.W.findIn K (.ref C) "value" = some none
  er : ErrC K C
  eq : PySem.W.findIn K (.ref C) "__eq__" = some (some (.builtin "object.__eq__"))
  ok : ∃ (fI : Addr) (fd : FuncData) (ds : List Value), PySem.W.findIn K (.ref C) "__init__" = some (some (.ref fI)) ∧ PySem.W.typeIn K (.ref fI) = some (.type "function") ∧ FnOk P w K mg base CX0 1 fI fd ["self", "value"] (spInit K) ∧
    Binds K fd ["self", "value"] [] ∧ Vals [V.non] ds ∧ Binds K fd ["self", "value"] ds ∧ KBn K fd ["self", "value"] 1 ["value"] (fun us ws => us ++ ws) (fun vs zs => vs ++ zs)
theorem ErrAt.use {P : Program} {w : World} {K : PySem.W.Frag} {mg : Str → Option Value} {base : Heap} {name qual : Str} {st : Stmt} {C : Addr} (E : ErrAt K mg name qual st C) (t : InitText st) : ErrUse P w K mg base name C := by
  obtain ⟨fI, fd, iC, tI, F⟩ := E.init
  obtain ⟨ds, r, b⟩ := binds_one t F
  exact ⟨E.g, E.T, E.xf, E.noV, E.er, E.eq, fI, fd, ds, iC, tI, ok_init t F, binds_two t F, r, b, binds_kw t F⟩
theorem pe_ref {X : Cx} {x : Str} {C : Addr} {pos : Pos} (hg : Gl X x) (hm : X.mg x = some (.ref C)) (hd : (x == ("__debug__" : Str)) = false := by decide) : PE X (.Name x pos) (tC (.ref C)) := pe_glob (v := .ref C) hg hm rfl hd
theorem if_ne {x y : V} {A B : Prop} (h : x ≠ y) (b : B) : if decide (x = y) = true then A else B := by
  rw [decide_eq_false h]
  exact iteF b
theorem if_eq {x y : V} {A B : Prop} (h : x = y) (b : A) : if decide (x = y) = true then A else B := by
  rw [decide_eq_true h]
  exact iteT b
theorem it2 : InitText (sInit 2) := ⟨_, _, _, _, _, _, _, rfl, rfl, rfl⟩
theorem it3 : InitText (sInit 3) := ⟨_, _, _, _, _, _, _, rfl, rfl, rfl⟩
theorem it4 : InitText (sInit 4) := ⟨_, _, _, _, _, _, _, rfl, rfl, rfl⟩
end DQ

set_option Elab.async false
set_option linter.all false
set_option maxRecDepth 100000
set_option maxHeartbeats 400000
namespace DQ
open PySem PySem.Spec PyProof.Rows L2
/-- an error of the class at C goes out, v its value, all else as it was -/
def Throws (E : XK) (C : Addr) (v : V) (H : Hp) : Prop := ∀ (d : Addr) (H' : Hp), Same H H' → H d = none → H' d = some (.xd [("value", v)]) → E (.ref C) (some d) H'
theorem throw_read {K : PySem.W.Frag} {C : Addr} {H1 : Hp} {v : V} {Q : XK} (T : OexC K C) (noV : PySem.W.findIn K (.ref C) "value" = some none) (h : Throws Q C v H1) :
    ∀ a, H1 a = none → spInit K [.ref a, v] (upd H1 a (exo a C none)) (fun v H2 => v = .non ∧ ∃ (d : Addr) (fs : List (Str × V)), H2 a = some (exo a C (some d)) ∧ H2 d = some (exd d fs) ∧ H1 d = none ∧ Q (.ref C) (some d) (upd (del H2 a) d (.xd fs))) (fun _ _ _ => False) := fun a ha =>
  ⟨a, C, v, rfl, T, noV, upd_same, fun d hd ne => by
    have hd1 : H1 d = none := by
      rw [upd_ne ne] at hd
      exact hd
    refine ⟨rfl, d, _, upd_same, by rw [upd_ne ne, upd_same], hd1, h d _ (fun b o q => ?_) hd1 upd_same⟩
    have nb : b ≠ a := ne_of_none q ha
    have nd : b ≠ d := ne_of_none q hd1
    rw [upd_ne nd, del_ne nb, upd_ne nb, upd_ne nd, upd_ne nb]
    exact q⟩
end DQ

set_option Elab.async false
set_option linter.all false
set_option maxRecDepth 100000
set_option maxHeartbeats 1000000
namespace DQ
open PySem PySem.Spec PyProof.Rows L2
abbrev sRemade : Stmt := topS 34
theorem scRemade : FnScope ["store", "items", "facts"] ["store", "items", "facts"] (defScope sRemade) := ⟨rfl, rfl, rfl, by decide +kernel, rfl, by decide +kernel, by decide +kernel⟩
section
variable {P : Program} {w : World} {K : PySem.W.Frag} {mg : Str → Option Value} {base : Heap}
def spRemade (K : PySem.W.Frag) : Sp := fun vs H Q _ => ∃ (v : V) (S : Store) (ia fa : Addr) (ns : List Int) (rs : List V) (fs : List Fact), vs = [v, .ref ia, .ref fa] ∧ StoAt H v S ∧ SqL K H ia (ns.map V.int) ∧ SqL K H fa rs ∧ Tups H rs (fs.map Fact.v) ∧
  ∀ (v' : V) (H' : Hp), Same H H' → NewSto H H' v' ⟨S.marks, S.columns, sortI ns, sortF fs⟩ → Q v' H'
theorem ok_remade {f : Addr} {fd : FuncData} (F : Fun K "remade" "remade" sRemade f fd) (mList : mg "list" = none) (mSorted : mg "sorted" = none) : FnOk P w K mg base CX0 1 f fd ["store", "items", "facts"] (spRemade K) := by
  refine F.ok scRemade (fun vs H Q E h => ?_) (fun cdv A outer s H vs Q E hr h => ?_)
  · obtain ⟨_, _, _, _, _, _, _, rfl, _⟩ := h
    rfl
  obtain ⟨v, S, ia, fa, ns, rs, fs, rfl, A0, hia, hfa, tp, q⟩ := h
  have nd := scRemade.nd
  refine ⟨_, pss_one (ps_ret (pe_tup (pa_cons pe_str (pa_cons (pe_callTy call_list_of (by rfl) mList (by decide +kernel) (pa_cons (pe_ix (r := rIxT K) ix_tup (pv 0) pe_int (fun _ _ => rfl)) pa_nil)) (pa_cons (pe_callTy call_list_of (by rfl) mList (by decide +kernel) (pa_cons (pe_ix (r := rIxT K) ix_tup (pv 0) pe_int (fun _ _ => rfl)) pa_nil))
      (pa_cons (pe_callB cr_sortedI (by rfl) mSorted (by decide +kernel) (pa_cons (pv 1) pa_nil)) (pa_cons (pe_callB (cr_sortD (enc := Fact.d) hr.units) (by rfl) mSorted (by decide +kernel) (pa_cons (pv 2) pa_nil)) pa_nil))))))), ?_⟩
  obtain ⟨t, m, cc, it, fo, rsS, rfl, ht, hm, hcc, hit, hf, tpS⟩ := A0
  refine ⟨_, rfl, t, _, 1, .ref m, rfl, rfl, .inl (.inl ht), atI_nat (j := 1) rfl, m, _, rfl, .inl (SqL.of hm), fun pm npm => ?_⟩
  have g1 := same_new npm (o := .lst (S.marks.map V.str))
  have f1 : upd H pm (.lst (S.marks.map V.str)) pm = some (.lst (S.marks.map V.str)) := upd_same
  generalize upd H pm (.lst (S.marks.map V.str)) = H1 at g1 f1 ⊢
  refine ⟨_, rfl, t, _, 2, .ref cc, rfl, rfl, .inl (.inl (g1 _ _ ht)), atI_nat (j := 2) rfl, cc, _, rfl, .inl (SqL.of (g1 _ _ hcc)), fun pc npc => ?_⟩
  have g2 := same_new npc (o := .lst (S.columns.map V.str))
  have f2 : upd H1 pc (.lst (S.columns.map V.str)) pc = some (.lst (S.columns.map V.str)) := upd_same
  generalize upd H1 pc (.lst (S.columns.map V.str)) = H2 at g2 f2 ⊢
  have s02 : Same H H2 := g1.trans g2
  refine ⟨_, rfl, ia, ns, rfl, L2.Same.seq s02 hia, fun ns' pi pmI rI npi => ?_⟩
  rw [sortI_of pmI rI]
  have g3 := same_new npi (o := .lst ((sortI ns).map V.int))
  have f3 : upd H2 pi (.lst ((sortI ns).map V.int)) pi = some (.lst ((sortI ns).map V.int)) := upd_same
  generalize upd H2 pi (.lst ((sortI ns).map V.int)) = H3 at g3 f3 ⊢
  have s3 : Same H H3 := s02.trans g3
  have tp3 := tp.keep (tk_same s3)
  have lenR : rs.length = fs.length := by rw [tp3.length, List.length_map]
  have z1 : (rs.zip fs).map (·.1) = rs := List.map_fst_zip (Nat.le_of_eq lenR)
  have z2 : (rs.zip fs).map (·.2) = fs := List.map_snd_zip (Nat.le_of_eq lenR.symm)
  refine ⟨_, rfl, fa, rs.zip fs, rfl, ?_, fun z hz => ?_, ?_, Or.inl fun d hd => ?_, fun z hz => fact_depth _, fun p hp => ?_⟩
  · rw [z1]
    exact L2.Same.seq s3 hfa
  · obtain ⟨a, e, h⟩ := tp3.zip z hz
    rw [e]
    exact fact_dp h
  · intro d hd d' hd'
    obtain ⟨x, _, rfl⟩ := List.mem_map.mp hd
    obtain ⟨y, _, rfl⟩ := List.mem_map.mp hd'
    exact fact_alike _ _
  · obtain ⟨x, _, rfl⟩ := List.mem_map.mp hd
    exact fact_tuple _
  refine nil_read ⟨by show 5 ≤ sizeLine; decide, fun T nT => ?_⟩
  have pmZ := List.mergeSort_perm (rs.zip fs) (PySem.W.dataLe false fun z => z.2.d)
  have tz : ∀ z ∈ (rs.zip fs).mergeSort (PySem.W.dataLe false fun z => z.2.d), ∃ a, z.1 = .ref a ∧ H3 a = some (.tup z.2.v) := fun z hz => tp3.zip z (pmZ.subset hz)
  have sm := sort_map (rs.zip fs)
  rw [z2] at sm
  generalize (rs.zip fs).mergeSort (PySem.W.dataLe false fun z => z.2.d) = zs at tz sm nT ⊢
  have g4 := same_new hp (o := .lst (zs.map (·.1)))
  have f4 : upd H3 p (.lst (zs.map (·.1))) p = some (.lst (zs.map (·.1))) := upd_same
  generalize upd H3 p (.lst (zs.map (·.1))) = H4 at g4 f4 nT ⊢
  have g5 := same_new nT (o := .tup [.str "store", .ref pm, .ref pc, .ref pi, .ref p])
  have f5 : upd H4 T (.tup [.str "store", .ref pm, .ref pc, .ref pi, .ref p]) T = some (.tup [.str "store", .ref pm, .ref pc, .ref pi, .ref p]) := upd_same
  generalize upd H4 T (.tup [.str "store", .ref pm, .ref pc, .ref pi, .ref p]) = H5 at g5 f5 ⊢
  have tps := tups_of zs tz
  rw [sm] at tps
  have s4 : Same H H4 := s3.trans g4
  refine q (.ref T) H5 (s4.trans g5) ⟨T, pm, pc, pi, p, zs.map (·.1), rfl, f5, g5 _ _ (g4 _ _ (g3 _ _ (g2 _ _ f1))), g5 _ _ (g4 _ _ (g3 _ _ f2)), g5 _ _ (g4 _ _ f3), g5 _ _ f4, (tps.keep (tk_same g4)).keep (tk_same g5), s4.free nT, npm, g1.free npc, s02.free npi, s3.free hp, ?_, ?_, ?_, ?_, ?_, ?_⟩
  · exact ne_of_none f1 npc
  · exact ne_of_none (g2 _ _ f1) npi
  · exact ne_of_none (g3 _ _ (g2 _ _ f1)) hp
  · exact ne_of_none f2 npi
  · exact ne_of_none (g3 _ _ f2) hp
  · exact ne_of_none f3 hp
/-! ### one edit of a store that is one -/
/-- what an edit's fact or item is, on the heap -/
def WhatAt (H : Hp) : Edit → V → Prop
  | .put x, v => ∃ b, v = .ref b ∧ H b = some (.tup x.v)
  | .take x, v => ∃ b, v = .ref b ∧ H b = some (.tup x.v)
  | .add i, v => v = .int i
  | .drop i, v => v = .int i
theorem WhatAt.same {H H' : Hp} {e : Edit} {v : V} (s : Same H H') (h : WhatAt H e v) : WhatAt H' e v := by
  cases e with
  | put x => obtain ⟨b, e, h⟩ := h; exact ⟨b, e, s _ _ h⟩
  | take x => obtain ⟨b, e, h⟩ := h; exact ⟨b, e, s _ _ h⟩
  | add i => exact h
  | drop i => exact h
/-- words that may stand in facts here -/
def editWords : List Str := ["red", "blue", "gold", "next", "below", "gone"]
def EdOk : Edit → Prop
  | .put x => x.word ∈ editWords ∧ ∀ i ∈ x.nums, 0 ≤ i ∧ i ≤ 1000000000
  | .take x => x.word ∈ editWords ∧ ∀ i ∈ x.nums, 0 ≤ i ∧ i ≤ 1000000000
  | .add i => 0 ≤ i ∧ i ≤ 1000000000
  | .drop i => 0 ≤ i ∧ i ≤ 1000000000
theorem lay_editWords : ∀ x ∈ editWords, PyData.canLay0 (.str x) = true ∧ x.length ≤ 1000 := by decide +kernel
/-- an edit that is made of a store: what it asks, what it then tells; CF, CI the errors' classes -/
def StepAsks (e : Edit) (C : Addr) (v w : V) (m : Nat) (S : Store) (H : Hp) (Q : VK) (E : XK) : Prop :=
  StoAt H v S ∧ Drawn m S ∧ m ≤ 150 ∧ WhatAt H e w ∧ EdOk e ∧ (∀ S', step S e = some S' → ∀ v' H', Same H H' → NewSto H H' v' S' → Q v' H') ∧ (step S e = none → ∀ H', Same H H' → Throws E C w H')
end
end DQ

set_option Elab.async false
set_option linter.all false
set_option maxRecDepth 100000
set_option maxHeartbeats 4000000
namespace DQ
open PySem PySem.Spec PyProof.Rows L2
abbrev sAscending : Stmt := topS 26
theorem scAscending : FnScope ["rows", "one", "other"] ["rows"] (defScope sAscending) := ⟨rfl, rfl, rfl, by decide +kernel, rfl, by decide +kernel, by decide +kernel⟩
section
variable {P : Program} {w : World} {K : PySem.W.Frag} {mg : Str → Option Value} {base : Heap}
def spAscending (K : PySem.W.Frag) : Sp := fun vs H Q _ => ∃ (a : Addr) (xs : List V) (ds : List PyData), vs = [.ref a] ∧ SqL K H a xs ∧ DpAll K H xs ds ∧ PySem.W.AllAlike ds ∧ (∀ d ∈ ds, d ≠ .none ∧ d.depth ≤ 8) ∧ ds.length ≤ 10000 ∧ ∀ H', Same H H' → Q (.bl (ascB ds)) H'
theorem ok_ascending {f : Addr} {fd : FuncData} (F : Fun K "is_ascending" "is_ascending" sAscending f fd) (mZip : mg "zip" = none) (mAll : mg "all" = none) : FnOk P w K mg base CX0 1 f fd ["rows"] (spAscending K) := by
  refine F.ok scAscending (fun vs H Q E h => ?_) (fun cdv A outer s H vs Q E hr h => ?_)
  · obtain ⟨a, xs, ds, rfl, _⟩ := h
    rfl
  obtain ⟨a, xs, ds, rfl, hs, ha, al, ok, few, q⟩ := h
  have nd := scAscending.nd
  refine ⟨_, pss_one (ps_ret (pe_callB (cr_all rfl) (by rfl) mAll (by decide +kernel) (pa_cons (pe_lc (own := [("one", 1), ("other", 2)]) (g := gTup K 2 (gCons (gName 1) (gCons (gName 2) gNil))) (tt := tYes) rfl nd (pi_zip (by rfl) mZip (pa_cons (pv 0) (pa_cons (pe_slice sl_list (pv 0) (po_some pe_int) po_none) pa_nil)))
    (blkOk_by (own := [("one", 1), ("other", 2)]) (N := ["rows", "one", "other"]) (sc := defScope sAscending) (by decide +kernel)) (fun _ _ _ _ _ => pg_tup rfl (pgs_cons (pg_name (i := 1) nd rfl (Or.inl rfl) (.inr rfl)) (pgs_cons (pg_name (i := 2) nd rfl (Or.inl rfl) (.inr rfl)) pgs_nil))) (fun _ _ _ _ _ => pts_nil) (fun _ _ _ _ _ => pe_cmpR (r := rLtD K) (op_ltD hr.units) (pv 1) (pv 2) (by rfl))) pa_nil))), ?_⟩
  have len := dpAll_len ha
  refine ⟨_, rfl, _, rfl, _, rfl, a, _, rfl, hs, fun p np => ?_⟩
  rw [show (some (1 : Int)) = some ((1 : Nat) : Int) from rfl, cut_drop]
  have mp := same_new np (o := .lst (xs.drop 1))
  have ep : upd H p (.lst (xs.drop 1)) p = some (.lst (xs.drop 1)) := upd_same
  generalize upd H p (.lst (xs.drop 1)) = H1 at mp ep ⊢
  have hs1 := L2.Same.seq mp hs
  have lz : (ds.zip (ds.drop 1)).length = min xs.length (xs.drop 1).length := by
    rw [List.length_zip, List.length_drop, List.length_drop, len]
  refine ⟨a, p, xs, xs.drop 1, rfl, hs1, SqL.of ep, fun D nD => lc_bools (walk_zip (K := K) (a := a) (b := p) (xs := xs) (ys := xs.drop 1) rfl) ((ds.zip (ds.drop 1)).map fun p => PySem.W.dataLt p.1 p.2) (by rw [List.length_map, lz]) (Nat.lt_of_le_of_lt (show min xs.length (xs.drop 1).length ≤ 10000 by rw [len]; omega) (by decide)) nD (fun _ s2 => ⟨L2.Same.seq s2 hs1, SqL.of (s2 _ _ ep)⟩)
    (fun i H2 v H3 y => ?_) (fun i v H2 H3 b hi hb s2 y R hR => ?_) (fun H2 s2 e2 => ?_) (fun v σ H (R R' : L2.St → Hp → Prop) m h => ?_)⟩
  · obtain ⟨T, x, y, _, nT, rfl, _⟩ := y
    exact same_new nT
  · obtain ⟨T, x, y, rfl, nT, rfl, hx, hy⟩ := y
    obtain ⟨pr, hp, e⟩ : ∃ pr : PyData × PyData, (ds.zip (ds.drop 1))[i]? = some pr ∧ b = PySem.W.dataLt pr.1 pr.2 := by
      rw [List.getElem?_map] at hb
      obtain ⟨pr, hp, e⟩ := Option.map_eq_some_iff.mp hb
      exact ⟨pr, hp, e.symm⟩
    obtain ⟨d, e'⟩ := pr
    rw [List.getElem?_zip_eq_some] at hp
    obtain ⟨h1, h2⟩ := hp
    have hx : xs[i]? = some x := hx
    have hy : (xs.drop 1)[i]? = some y := hy
    rw [List.getElem?_drop] at hy h2
    have sT := same_new nT (o := .tup [x, y])
    have eT : upd H2 T (.tup [x, y]) T = some (.tup [x, y]) := upd_same
    generalize upd H2 T (.tup [x, y]) = H3 at sT eT hR ⊢
    have keep : L2.Same H H3 := (mp.trans s2).trans sT
    refine ⟨T, [x, y], rfl, .inl (.inl eT), rfl, x, [y], rfl, y, [], rfl, rfl, rfl, _, rfl, _, rfl, d, e', dp_same keep _ _ (dpAll_get ha hx h1), dp_same keep _ _ (dpAll_get ha hy h2), al _ (List.mem_of_getElem? h1) _ (List.mem_of_getElem? h2), (ok _ (List.mem_of_getElem? h1)).1, (ok _ (List.mem_of_getElem? h1)).2, ?_⟩
    rw [← e]
    exact hR _ fun _ _ h => h
  · refine ⟨D, _, rfl, SqL.of e2, ?_⟩
    rw [List.all_map]
    exact q H2 (mp.trans s2)
  · obtain ⟨T, ys, e1, e2, e3, z1, r1, e4, z2, r2, e5, e6, h⟩ := h
    exact ⟨T, ys, e1, e2, e3, z1, r1, e4, z2, r2, e5, e6, m _ _ h⟩
end
end DQ

set_option Elab.async false
set_option linter.all false
set_option maxRecDepth 100000
set_option maxHeartbeats 400000
namespace DQ
open PySem PySem.Spec PyProof.Rows L2
abbrev sFacts : Stmt := topS 29
abbrev NFs : List Str := ["marks", "columns", "items", "value", "known", "item", "fact"]
theorem scFacts : FnScope NFs ["marks", "columns", "items", "value"] (defScope sFacts) := ⟨rfl, rfl, rfl, by decide +kernel, rfl, by decide +kernel, by decide +kernel⟩
section
variable {P : Program} {w : World} {K : PySem.W.Frag} {mg : Str → Option Value} {base : Heap}
/-- a value that stands for data; a list's items that are facts are tuples laid here -/
def FactsAt (K : PySem.W.Frag) (H : Hp) (v : V) (d : PyData) : Prop :=
  (∃ (a : Addr) (xs : List V) (ds : List PyData), v = .ref a ∧ d = .list ds ∧ SqL K H a xs ∧ DpAll K H xs ds ∧ ds.length ≤ 10000 ∧ (∀ e ∈ ds, Parts e) ∧ ∀ fs : List Fact, ds = fs.map Fact.d → Tups H xs (fs.map Fact.v)) ∨ (Dp K H v d ∧ isT "list" d = false)
def spFacts (K : PySem.W.Frag) : Sp := fun vs H Q _ => ∃ (ma ca ia : Addr) (ms cs : List Str) (ns : List Int) (v : V) (d : PyData), vs = [.ref ma, .ref ca, .ref ia, v] ∧ SqL K H ma (ms.map V.str) ∧ SqL K H ca (cs.map V.str) ∧ SeqAt.shaped (.list (ms.map PyData.str)) = true ∧ SeqAt.shaped (.list (cs.map PyData.str)) = true ∧
  SqL K H ia (ns.map V.int) ∧ ns.length ≤ 10000 ∧ FactsAt K H v d ∧ (∀ x, x ∈ ms ∨ x ∈ cs → PyData.canLay0 (.str x) = true) ∧ ∀ H', Same H H' → Q (.bl (areFactsD ms cs ns d)) H'
theorem ok_facts {f fF fA fC : Addr} {fd fdF fdA fdC : FuncData} (F : Fun K "are_facts" "are_facts" sFacts f fd)
    (GF : FnOk P w K mg base CX0 4 fF fdF ["marks", "columns", "known", "value"] (spIsFact K)) (bF : Binds K fdF ["marks", "columns", "known", "value"] []) (kF' : PySem.W.keepIn K (.ref fF) = true) (mF : mg "is_fact" = some (.ref fF))
    (GA : FnOk P w K mg base CX0 1 fA fdA ["rows"] (spAscending K)) (bA : Binds K fdA ["rows"] []) (kA : PySem.W.keepIn K (.ref fA) = true) (mA : mg "is_ascending" = some (.ref fA))
    (GC : FnOk P w K mg base CX0 1 fC fdC ["facts"] (spClash K)) (bC : Binds K fdC ["facts"] []) (kC : PySem.W.keepIn K (.ref fC) = true) (mC : mg "first_clash" = some (.ref fC))
    (mI : mg "isinstance" = none) (mList : mg "list" = none) (mAll : mg "all" = none) : FnOk P w K mg base CX0 5 f fd ["marks", "columns", "items", "value"] (spFacts K) := by
  refine F.ok scFacts (fun vs H Q E h => ?_) (fun cdv A outer s H vs Q E hr h => ?_)
  · obtain ⟨_, _, _, _, _, _, _, _, rfl, _⟩ := h
    rfl
  obtain ⟨ma, ca, ia, ms, cs, ns, v, d, rfl, hma, hca, lm, lc, hia, few, hv, lay, q⟩ := h
  have nd := scFacts.nd
  refine ⟨_, (pss_cons (ps_if (pt_not (pt_val (pe_callB call_isi (by rfl) mI (by decide +kernel) (pa_cons (pv 3) (pa_cons (pe_bltn (v := .ty "list") (by rfl) mList (by decide +kernel) rfl) pa_nil))))) (pss_one (ps_ret pe_bl)) pss_nil)
    (pss_cons (ps_set (i := 4) nd rfl (.inr rfl) (pe_dc (own := [("item", 5)]) (g := gName 5) (tt := tYes) rfl nd (pi_list (pv 2)) (blkOk_by (own := [("item", 5)]) (N := NFs) (sc := defScope sFacts) (by decide +kernel)) (fun _ _ _ _ _ => pg_name (i := 5) nd rfl (Or.inl rfl)) (fun _ _ _ _ _ => pts_nil) (fun _ _ _ _ _ => pv 5) (fun _ _ _ _ _ => pe_bl)))
    (pss_cons (ps_if (pt_not (pt_val (pe_callB (cr_all rfl) (by rfl) mAll (by decide +kernel) (pa_cons (pe_lc (own := [("fact", 6)]) (g := gName 6) (tt := tYes) rfl nd (pi_list (pv 3)) (blkOk_by (own := [("fact", 6)]) (N := NFs) (sc := defScope sFacts) (by decide +kernel)) (fun _ _ _ _ _ => pg_name (i := 6) nd rfl (Or.inl rfl)) (fun _ _ _ _ _ => pts_nil)
      (fun _ _ _ _ _ => pe_call GF (hr.mono (by decide)) rfl mF kF' bF .nil pass0 (pa_cons (pv 0) (pa_cons (pv 1) (pa_cons (pv 4) (pa_cons (pv 6) pa_nil)))))) pa_nil)))) (pss_one (ps_ret pe_bl)) pss_nil)
    (pss_one (ps_ret (pe_and (pe_call GA (hr.mono (by decide)) rfl mA kA bA .nil pass0 (pa_cons (pv 3) pa_nil)) (pe_one (pe_cmpR op_isN (pe_call GC (hr.mono (by decide)) rfl mC kC bC .nil pass0 (pa_cons (pv 3) pa_nil)) pe_non (nomark _))))))))), ?_⟩
  rcases hv with ⟨a, xs, ds, rfl, rfl, hs, ha, fewd, parts, tups⟩ | ⟨hd, no⟩
  · have len := dpAll_len ha
    have ty := dp_ty (Dp.lst hs ha)
    refine ⟨_, rfl, .ref a, .ty "list", _, _, _, rfl, .ty "list", ty, kit_data (by simp) _, _, rfl, ?_⟩
    have il : isT "list" (.list ds) = true := by simp only [isT, tyN]; decide
    rw [il]
    refine ⟨_, rfl, ia, rfl, ⟨_, hia⟩, fun D nD => dc_known hia few nD (fun _ => rfl) (fun _ _ _ q => ⟨_, rfl, q⟩) fun H1 s1 kn => ?_⟩
    refine ⟨_, rfl, a, rfl, ⟨_, L2.Same.seq s1 hs⟩, fun D2 nD2 => lc_bools (walk_list (K := K) (a := a) (xs := xs)) (ds.map (isFactD ms cs ns)) (by rw [List.length_map, len]) (Nat.lt_of_le_of_lt (show xs.length ≤ 10000 by rw [len]; exact fewd) (by decide)) nD2 (fun _ s2 => L2.Same.seq (s1.trans s2) hs) (fun _ _ _ _ y => by rw [y.1]; exact fun _ _ h => h)
        (fun i v H2 H3 b hi hb s2 y R hR => ?_) (fun H2 s2 e2 => ?_) (fun _ _ _ _ _ m h => m _ _ h)⟩
    · obtain ⟨rfl, hv⟩ := y
      obtain ⟨e, he, rfl⟩ := all_at hb
      have s12 : L2.Same H H3 := s1.trans s2
      refine ⟨rfl, _, rfl, _, rfl, _, rfl, _, rfl, ma, ca, D, ms, cs, ns, v, e, rfl, L2.Same.seq s12 hma, L2.Same.seq s12 hca, lm, lc, ?_, dp_same s12 _ _ (dpAll_get ha hv he), parts e (List.mem_of_getElem? he), fun H' sm => hR H' sm⟩
      obtain ⟨kvs, ek, iff⟩ := kn
      exact ⟨kvs, s2 _ _ ek, iff⟩
    have s12 : L2.Same H H2 := s1.trans s2
    have yes : areFactsD ms cs ns (.list ds) = (ds.all (isFactD ms cs ns) && (ascB ds && noClashB (factsD ds))) := rfl
    rw [yes] at q
    refine ⟨D2, _, rfl, SqL.of e2, _, rfl, ?_⟩
    rw [List.all_map]
    refine ite2 (fun c1 => ?_) fun c1 => ?_
    · have c1 : (!ds.all (isFactD ms cs ns)) = true := c1
      have q := q H2 s12
      rw [show ds.all (isFactD ms cs ns) = false by simpa using c1, Bool.false_and] at q
      exact q
    have c1 : ds.all (isFactD ms cs ns) = true := by
      have c1 : ¬ (!ds.all (isFactD ms cs ns)) = true := c1
      simpa using c1
    rw [c1, Bool.true_and] at q
    obtain ⟨ed, hof⟩ := all_facts c1
    generalize factsD ds = fs at ed hof q
    have tp := tups fs ed
    have lfs : fs.length = ds.length := by rw [ed, List.length_map]
    refine ⟨_, rfl, a, xs, ds, rfl, L2.Same.seq s12 hs, dpAll_same s12 _ _ ha, ?_, ?_, fewd, fun H3 s3 => ⟨_, rfl, ite2 (fun c2 => ?_) fun c2 => ?_⟩⟩
    · intro d1 h1 d2 h2
      rw [ed] at h1 h2
      obtain ⟨x, _, rfl⟩ := List.mem_map.mp h1
      obtain ⟨y, _, rfl⟩ := List.mem_map.mp h2
      exact fact_alike x y
    · intro d1 h1
      rw [ed] at h1
      obtain ⟨x, _, rfl⟩ := List.mem_map.mp h1
      exact ⟨(fun e => by cases x <;> exact nomatch e), fact_depth x⟩
    · have s13 : L2.Same H H3 := s12.trans s3
      refine ⟨_, rfl, a, xs, fs, rfl, L2.Same.seq s13 hs, tp.keep (tk_same s13), fun x hx => lay _ (hof x hx).1, by omega, fun H4 s4 nc => ⟨rfl, ?_⟩, fun i y v H4 s4 hy hv _ cl => ⟨rfl, ?_⟩⟩
      · have q := q H4 (s13.trans s4)
        rw [c2, Bool.true_and, noClashB_iff.mpr nc] at q
        exact q
      · obtain ⟨x, hx, cl⟩ := cl
        have q := q H4 (s13.trans s4)
        obtain ⟨t, tt, rfl, _⟩ := tp.get hv
        have nb : noClashB fs = false := Bool.eq_false_iff.mpr fun e => by
          have := noClashB_iff.mp e x (List.mem_of_mem_take hx) y (List.mem_of_getElem? hy)
          rw [cl] at this
          exact nomatch this
        rw [c2, Bool.true_and, nb] at q
        exact q
    · have q := q H3 (s12.trans s3)
      rw [Bool.eq_false_iff.mpr c2, Bool.false_and] at q
      exact q
  · have ty := dp_ty hd
    refine ⟨_, rfl, v, .ty "list", _, _, _, rfl, .ty "list", ty, kit_data (by simp) _, _, rfl, ?_⟩
    rw [no]
    have e : areFactsD ms cs ns d = false := by
      cases d with
      | list ds => exact absurd no (by simp only [isT, tyN]; decide)
      | _ => rfl
    have q := q H fun _ _ h => h
    rw [e] at q
    exact q
end
end DQ

set_option Elab.async false
set_option linter.all false
set_option maxRecDepth 100000
set_option maxHeartbeats 400000
namespace DQ
open PySem PySem.Spec PyProof.Rows L2
abbrev sStoreP : Stmt := topS 30
abbrev NSt : List Str := ["value", "_", "marks", "columns", "items", "facts"]
theorem scStoreP : FnScope NSt ["value"] (defScope sStoreP) := ⟨rfl, rfl, rfl, by decide +kernel, rfl, by decide +kernel, by decide +kernel⟩
theorem factsAt_same {K : PySem.W.Frag} {H H' : Hp} {v : V} {d : PyData} (s : Same H H') (h : FactsAt K H v d) : FactsAt K H' v d := by
  rcases h with ⟨a, xs, ds, e1, e2, hs, ha, few, p, t⟩ | ⟨h, n⟩
  · exact .inl ⟨a, xs, ds, e1, e2, L2.Same.seq s hs, dpAll_same s _ _ ha, few, p, fun fs e => (t fs e).keep (tk_same s)⟩
  · exact .inr ⟨dp_same s _ _ h, n⟩
section
variable {P : Program} {w : World} {K : PySem.W.Frag} {mg : Str → Option Value} {base : Heap}
def spIsStore (K : PySem.W.Frag) : Sp := fun vs H Q _ => ∃ v : V, vs = [v] ∧
  ((∃ (d : PyData), Dp K H v d ∧ (∀ ds, d = .tuple ds → ds.length ≠ 5) ∧ ∀ H', Same H H' → Q (.bl false) H') ∨
   ∃ (t : Addr) (s m c i f : V) (ds dm dc di df : PyData), v = .ref t ∧ SqT K H t [s, m, c, i, f] ∧ Dp K H s ds ∧ SeqAt.shaped ds = true ∧ Dp K H m dm ∧ Fits dm ∧ Lays dm ∧ Dp K H c dc ∧ Fits dc ∧ Lays dc ∧ Dp K H i di ∧ Fits di ∧ FactsAt K H f df ∧
     ∀ H', Same H H' → Q (.bl (isStoreD ds dm dc di df)) H')
theorem ok_isStore {f f1 f2 f3 f4 f5 : Addr} {fd d1 d2 d3 d4 d5 : FuncData} {t1 : Tok} (F : Fun K "is_store" "is_store" sStoreP f fd)
    (G1 : FnOk P w K mg base CX0 4 f1 d1 ["value"] (spMarks K 4)) (b1 : Binds K d1 ["value"] []) (k1 : PySem.W.keepIn K (.ref f1) = true) (m1 : mg "are_marks" = some (.ref f1))
    (G2 : FnOk P w K mg base CX0 4 f2 d2 ["marks", "value"] (spColumns K)) (b2 : Binds K d2 ["marks", "value"] []) (k2 : PySem.W.keepIn K (.ref f2) = true) (m2 : mg "are_columns" = some (.ref f2))
    (G3 : FnOk P w K mg base CX0 4 f3 d3 ["value"] (spNumbers K)) (b3 : Binds K d3 ["value"] []) (k3 : PySem.W.keepIn K (.ref f3) = true) (m3 : mg "are_numbers" = some (.ref f3))
    (G4 : FnOk P w K mg base CX0 1 f4 d4 ["rows"] (spAscending K)) (b4 : Binds K d4 ["rows"] []) (k4 : PySem.W.keepIn K (.ref f4) = true) (m4 : mg "is_ascending" = some (.ref f4))
    (G5 : FnOk P w K mg base CX0 5 f5 d5 ["marks", "columns", "items", "value"] (spFacts K)) (b5 : Binds K d5 ["marks", "columns", "items", "value"] []) (k5 : PySem.W.keepIn K (.ref f5) = true) (m5 : mg "are_facts" = some (.ref f5))
    (mI : mg "isinstance" = none) (mTuple : mg "tuple" = none) (mLen : mg "len" = none) (mM : mg "MOST_ITEMS" = some (.int 2000 t1)) : FnOk P w K mg base CX0 6 f fd ["value"] (spIsStore K) := by
  refine F.ok scStoreP (fun vs H Q E h => ?_) (fun cdv A outer s H vs Q E hr h => ?_)
  · obtain ⟨_, rfl, _⟩ := h
    rfl
  obtain ⟨v, rfl, h⟩ := h
  have nd := scStoreP.nd
  refine ⟨_, (pss_cons (ps_if (PW.pt (pw_or (pt_not (pt_val (pe_callB call_isi (by rfl) mI (by decide +kernel) (pa_cons (pv 0) (pa_cons (pe_bltn (v := .ty "tuple") (by rfl) mTuple (by decide +kernel) rfl) pa_nil)))))
      (pw_or (pt_cmpR op_ne (pe_callB call_len_seq (by rfl) mLen PySem.boot_len (pa_cons (pv 0) pa_nil)) pe_int (nomark _)) (pw_or1 (pt_cmpR (op_neD hr.units) (pe_ix (r := rIxT K) ix_tup (pv 0) pe_int (fun _ _ => rfl)) pe_str (nomark _)))))) (pss_one (ps_ret pe_bl)) pss_nil)
    (pss_cons (ps_asg (pv 0) (pg_tup rfl (pgs_cons (pg_name (i := 1) nd rfl (.inl rfl)) (pgs_cons (pg_name (i := 2) nd rfl (.inl rfl)) (pgs_cons (pg_name (i := 3) nd rfl (.inl rfl)) (pgs_cons (pg_name (i := 4) nd rfl (.inl rfl)) (pgs_cons (pg_name (i := 5) nd rfl (.inl rfl)) pgs_nil)))))))
    (pss_cons (ps_if (PW.pt (pw_or (pt_not (pt_val (pe_call G1 (hr.mono (by decide)) rfl m1 k1 b1 .nil pass0 (pa_cons (pv 2) pa_nil)))) (pw_or1 (pt_not (pt_val (pe_call G2 (hr.mono (by decide)) rfl m2 k2 b2 .nil pass0 (pa_cons (pv 2) (pa_cons (pv 3) pa_nil)))))))) (pss_one (ps_ret pe_bl)) pss_nil)
    (pss_cons (ps_if (PW.pt (pw_or (pt_not (pt_val (pe_call G3 (hr.mono (by decide)) rfl m3 k3 b3 .nil pass0 (pa_cons (pv 4) pa_nil)))) (pw_or (pt_cmpR op_gt (pe_callB call_len_seq (by rfl) mLen PySem.boot_len (pa_cons (pv 4) pa_nil)) (pe_glob (v := .int 2000) (by rfl) mM ⟨_, rfl⟩) (nomark _)) (pw_or1 (pt_not (pt_val (pe_call G4 (hr.mono (by decide)) rfl m4 k4 b4 .nil pass0 (pa_cons (pv 4) pa_nil)))))))) (pss_one (ps_ret pe_bl)) pss_nil)
    (pss_one (ps_ret (pe_call G5 (hr.mono (by decide)) rfl m5 k5 b5 .nil pass0 (pa_cons (pv 2) (pa_cons (pv 3) (pa_cons (pv 4) (pa_cons (pv 5) pa_nil)))))))))) ), ?_⟩
  rcases h with ⟨d, hd, n5, q⟩ | ⟨t, s, m, c, i, fv, ds, dm, dc, di, df, rfl, ht, hs, shs, hm, fm, lm, hc, fc, lc, hi, fi, hf, q⟩
  · have q := q H fun _ _ h => h
    have ty := dp_ty hd
    refine ⟨_, rfl, v, .ty "tuple", _, _, _, rfl, .ty "tuple", ty, kit_data (by simp) d, _, rfl, ite2 (fun c1 => q) fun c1 => ?_⟩
    cases hd with
    | @tup a xs ds hs ha =>
      have ne := ne_int (show xs.length ≠ 5 by rw [dpAll_len ha]; exact n5 ds rfl)
      refine ⟨_, rfl, a, xs, rfl, .inr hs, rfl, _, rfl, ?_⟩
      rw [show decide (V.int ((xs.length : Nat) : Int) = V.int 5) = false from ne]
      exact q
    | _ => exact absurd rfl c1
  have tyT : TyX K H (.ref t) (.type "tuple") := by
    rcases ht with (h | ⟨o, h⟩) | ⟨o, _, _, h, cl, _⟩
    · exact .base (.tup h)
    · exact .fTuple h
    · exact .kTuple h cl
  refine ⟨_, rfl, .ref t, .ty "tuple", _, _, true, rfl, .ty "tuple", tyT, kit_ty (by decide +kernel), _, rfl, ?_⟩
  refine ⟨_, rfl, t, _, rfl, .inr ht, rfl, _, rfl, ?_⟩
  refine ⟨_, rfl, t, _, 0, s, rfl, rfl, ht, atI_nat (j := 0) rfl, ds, .str "store", hs, .str _, shs, by decide +kernel, _, rfl, ite2 (fun c1 => ?_) fun c1 => ?_⟩
  · have q := q H fun _ _ h => h
    unfold isStoreD at q
    rw [show PyData.eqv ds (.str "store") = false by simpa using c1, Bool.false_and] at q
    exact q
  have c1 : PyData.eqv ds (.str "store") = true := by simpa using c1
  unfold isStoreD at q
  rw [c1, Bool.true_and] at q
  refine ⟨_, rfl, t, _, rfl, ht, rfl, s, _, rfl, m, _, rfl, c, _, rfl, i, _, rfl, fv, _, rfl, rfl, ?_⟩
  refine ⟨_, rfl, m, dm, rfl, hm, fm, fun H1 s1 => ⟨_, rfl, ite2 (fun c2 => ?_) fun c2 => ?_⟩⟩
  · have q := q H1 s1
    rw [show wordsD 4 dm = false by simpa using c2, Bool.false_and, Bool.false_and] at q
    exact q
  have c2 : wordsD 4 dm = true := by simpa using c2
  obtain ⟨l1, rfl, w1⟩ := wordsD_list c2
  rw [c2, Bool.true_and] at q
  cases hm with
  | @lst ma x1 _ hma a1 =>
  obtain ⟨e1, n1⟩ := texts_all a1 w1
  rw [e1] at hma
  refine ⟨_, rfl, _, rfl, ma, texts l1, c, dc, rfl, L2.Same.seq s1 hma, dp_same s1 _ _ hc, fc, fun H2 s2 => ⟨_, rfl, ite2 (fun c3 => ?_) fun c3 => ?_⟩⟩
  · have q := q H2 (s1.trans s2)
    rw [show columnsD (texts (listD (.list l1))) dc = false by simpa [listD] using c3, Bool.false_and] at q
    exact q
  have c3 : columnsD (texts l1) dc = true := by simpa using c3
  have c3' : wordsD 2 dc = true := by
    cases e : wordsD 2 dc with
    | true => rfl
    | false =>
      rw [columns_no e] at c3
      exact nomatch c3
  obtain ⟨l2, rfl, w2⟩ := wordsD_list c3'
  rw [show columnsD (texts (listD (.list l1))) (.list l2) = true from c3, Bool.true_and] at q
  cases hc with
  | @lst ca x2 _ hca a2 =>
  obtain ⟨e2, n2⟩ := texts_all a2 w2
  rw [e2] at hca
  have s02 : L2.Same H H2 := s1.trans s2
  refine ⟨_, rfl, i, di, rfl, dp_same s02 _ _ hi, fi, fun H3 s3 => ⟨_, rfl, ite2 (fun c4 => ?_) fun c4 => ?_⟩⟩
  · have q := q H3 (s02.trans s3)
    rw [show numsD di = false by simpa using c4, Bool.false_and, Bool.false_and, Bool.false_and] at q
    exact q
  have c4 : numsD di = true := by simpa using c4
  rw [c4, Bool.true_and] at q
  have s03 : L2.Same H H3 := s02.trans s3
  cases hi with
  | @lst ia x3 l3 hia a3 =>
    obtain ⟨few3, _⟩ := fi l3 rfl
    obtain ⟨e3, n3, m3⟩ := ints_all a3 c4
    have len3 := dpAll_len a3
    have hia3 := L2.Same.seq s03 hia
    refine ⟨_, rfl, ia, _, rfl, .inl hia3, _, _, rfl, rfl, _, rfl, ite2 (fun c5 => ?_) fun c5 => ?_⟩
    · have c5 := of_decide_eq_true c5
      have q := q H3 s03
      rw [show decide ((listD (.list l3)).length ≤ 2000) = false from decide_eq_false (by show ¬ l3.length ≤ 2000; omega), Bool.false_and, Bool.false_and] at q
      exact q
    have c5 := of_decide_eq_false (Bool.eq_false_iff.mpr c5)
    rw [show decide ((listD (.list l3)).length ≤ 2000) = true from decide_eq_true (by show l3.length ≤ 2000; omega), Bool.true_and] at q
    refine ⟨_, rfl, ia, x3, l3, rfl, hia3, dpAll_same s03 _ _ a3, ?_, ?_, few3, fun H4 s4 => ⟨_, rfl, ite2 (fun c6 => ?_) fun c6 => ?_⟩⟩
    · intro d1 h1 d2 h2
      rw [m3] at h1 h2
      obtain ⟨x, _, rfl⟩ := List.mem_map.mp h1
      obtain ⟨y, _, rfl⟩ := List.mem_map.mp h2
      rfl
    · intro d1 h1
      rw [m3] at h1
      obtain ⟨x, _, rfl⟩ := List.mem_map.mp h1
      exact ⟨(fun e => nomatch e), Nat.zero_le _⟩
    · have q := q H4 (s03.trans s4)
      rw [show ascB (listD (.list l3)) = false by simpa [listD] using c6, Bool.false_and] at q
      exact q
    have c6 : ascB l3 = true := by simpa using c6
    rw [show ascB (listD (.list l3)) = true from c6, Bool.true_and] at q
    have s04 : L2.Same H H4 := s03.trans s4
    rw [e3] at hia
    refine ⟨_, rfl, _, rfl, _, rfl, _, rfl, ma, ca, ia, texts l1, texts l2, intsD l3, fv, df, rfl, L2.Same.seq s04 hma, L2.Same.seq s04 hca, shaped_texts w1 (lm _ rfl), shaped_texts w2 (lc _ rfl), L2.Same.seq s04 hia, by omega, factsAt_same s04 hf, fun x hx => ?_, fun H5 s5 => q H5 (s04.trans s5)⟩
    have md : ∀ {l : List PyData}, l.all wordD = true → x ∈ texts l → (PyData.str x) ∈ l := fun {l} h z => by
      rw [texts_data h]
      exact List.mem_map.mpr ⟨x, z, rfl⟩
    rcases hx with hx | hx
    · exact lm _ rfl _ (md w1 hx)
    · exact lc _ rfl _ (md w2 hx)
  | _ => exact nomatch c4
end
end DQ

set_option Elab.async false
set_option linter.all false
set_option maxRecDepth 100000
set_option maxHeartbeats 400000
namespace DQ
open PySem PySem.Spec PyProof.Rows L2
theorem intsD_ints : ∀ ns : List Int, intsD (ns.map PyData.int) = ns
  | [] => rfl
  | x :: r => by
    have ih := intsD_ints r
    unfold intsD at ih ⊢
    rw [List.map_cons, List.filterMap_cons_some (f := intD) (a := .int x) (b := x) rfl, ih]
theorem isStore_of {m : Nat} (hm : m ≤ 2000) {S : Store} (D : Drawn m S) : isStoreD (.str "store") (.list (S.marks.map PyData.str)) (.list (S.columns.map PyData.str)) (.list (S.items.map PyData.int)) (.list (S.facts.map Fact.d)) = true := by
  obtain ⟨k, hk, ek⟩ := D.marks
  obtain ⟨j, h1, h2, ej⟩ := D.columns
  unfold isStoreD
  show (PyData.eqv (.str "store") (.str "store") && ((wordsD 4 (.list (S.marks.map PyData.str)) && columnsD (texts (S.marks.map PyData.str)) (.list (S.columns.map PyData.str))) && ((numsD (.list (S.items.map PyData.int)) && decide ((S.items.map PyData.int).length ≤ 2000) && ascB (S.items.map PyData.int)) && areFactsD (texts (S.marks.map PyData.str)) (texts (S.columns.map PyData.str)) (intsD (S.items.map PyData.int)) (.list (S.facts.map Fact.d))))) = true
  rw [texts_strs, texts_strs, intsD_ints, nums_of D.items.2, asc_ints D.items.1, areFacts_of D, List.length_map, decide_eq_true (show S.items.length ≤ 2000 by have := D.few; omega)]
  rw [ek, ej, marks_ok hk, columns_ok hk h1 h2]
  decide +kernel
end DQ

set_option Elab.async false
set_option linter.all false
set_option maxRecDepth 100000
set_option maxHeartbeats 400000
namespace DQ
open PySem PySem.Spec PyProof.Rows L2
/-- the store at v, part by part -/
theorem store_asks {K : PySem.W.Frag} {H : Hp} {v : V} {m : Nat} {S : Store} (hm : m ≤ 2000) (D : Drawn m S) (A : StoAt H v S) {Q : VK} {E : XK} (q : ∀ H', Same H H' → Q (.bl true) H') : spIsStore K [v] H Q E := by
  obtain ⟨t, ma, ca, ia, fa, rs, rfl, ht, hma, hca, hia, hfa, tp⟩ := A
  have fitsS : ∀ ms : List Str, ms.length ≤ 10000 → (∀ x ∈ ms, x ∈ drawnWords) → Fits (.list (ms.map PyData.str)) ∧ Lays (.list (ms.map PyData.str)) := fun ms l h => by
    refine ⟨fun ds e => ?_, fun ds e d hd => ?_⟩
    · injection e with e
      subst e
      refine ⟨by rw [List.length_map]; exact l, fun d hd x ex => ?_⟩
      obtain ⟨y, hy, e⟩ := List.mem_map.mp hd
      rw [ex] at e
      injection e with e
      rw [← e]
      exact (lay_words y (h y hy)).2
    · injection e with e
      subst e
      obtain ⟨y, hy, rfl⟩ := List.mem_map.mp hd
      exact (lay_words y (h y hy)).1
  obtain ⟨k, hk, ek⟩ := D.marks
  obtain ⟨j, _, hj, ej⟩ := D.columns
  have lm : S.marks.length ≤ 10000 := by rw [ek, List.length_take]; omega
  have lc : S.columns.length ≤ 10000 := by rw [ej, List.length_take]; omega
  obtain ⟨f1, l1⟩ := fitsS S.marks lm fun x h => D.word (.inl h)
  obtain ⟨f2, l2⟩ := fitsS S.columns lc fun x h => D.word (.inr h)
  have f3 : Fits (.list (S.items.map PyData.int)) := fun ds e => by
    injection e with e
    subst e
    refine ⟨by rw [List.length_map]; have := D.few; omega, fun d hd x ex => ?_⟩
    obtain ⟨y, hy, e⟩ := List.mem_map.mp hd
    rw [ex] at e
    exact nomatch e
  refine ⟨_, rfl, .inr ⟨t, .str "store", .ref ma, .ref ca, .ref ia, .ref fa, .str "store", _, _, _, .list (S.facts.map Fact.d), rfl, .inl (.inl ht), .str _, by decide +kernel, .lst (SqL.of hma) (dp_texts S.marks), f1, l1, .lst (SqL.of hca) (dp_texts S.columns), f2, l2, .lst (SqL.of hia) (dp_intsL S.items), f3, ?_, fun H' sm => by rw [isStore_of hm D]; exact q H' sm⟩⟩
  refine .inl ⟨fa, rs, S.facts.map Fact.d, rfl, rfl, SqL.of hfa, dp_facts tp, by rw [List.length_map]; have := D.short; omega, fun e he => ?_, fun fs e => by rw [← facts_inj e]; exact tp⟩
  obtain ⟨x, hx, rfl⟩ := List.mem_map.mp he
  exact fact_parts x (lay_words _ (D.factWord hx)).1
end DQ

set_option Elab.async false
set_option linter.all false
set_option maxRecDepth 100000
namespace DQ
open PySem PySem.Spec PyProof.Rows L2
variable {X : Cx}
/-- what the parts of a block of one walk answer, bundled -/
structure DcParts (X : Cx) (kx vx tg : Expr) (ifs : List Expr) (scope : Scope) (g : TG) (tt : TT) (tk tv : TE) : Prop where
  goes : ∀ s H C cl fp, PG (X.blk s H scope (compEnvC scope cl C X.env) fp) tg g
  tests : ∀ s H C cl fp, PTs (X.blk s H scope (compEnvC scope cl C X.env) fp) ifs tt
  key : ∀ s H C cl fp, PE (X.blk s H scope (compEnvC scope cl C X.env) fp) kx tk
  val : ∀ s H C cl fp, PE (X.blk s H scope (compEnvC scope cl C X.env) fp) vx tv
/-- a dict comprehension that a plain local of the def takes on one line -/
theorem ps_setDc {i : Nat} {y : Str} {py pos spos : Pos} {kx vx tg iter : Expr} {ifs : List Expr} {scope : Scope} {own : List (Str × Nat)} {wi : TI} {g : TG} {tt : TT} {tk tv : TE}
    (calm : X.calm = true) (nd : X.N.Nodup) (at_ : X.N[i]? = some y) (loc : X.env.scope.names.lookup y = some .local)
    (used : swapsWith (.DictComp kx vx [⟨tg, iter, ifs, 0⟩] scope pos) (some (.Name y py)) spos.line X.env = pure true)
    (walk : PI X tg iter wi) (ok : BlkOk X.N X.env.scope scope own) (B : DcParts X kx vx tg ifs scope g tt tk tv)
    (fold : ∀ x, foldedSetIterable iter X.env x = pure x := by intro _; rfl) :
    PS X (.Assign [.Name y py] (.DictComp kx vx [⟨tg, iter, ifs, 0⟩] scope pos) spos) (tAsg (tDc wi g tt tk tv (own.map (·.2))) (gName i)) := by
  constructor
  intro pins s σ H D I ask
  have ask : tDc wi g tt tk tv (own.map (·.2)) σ H (fun x H1 => gName i x σ H1 D.nx) := ask
  rw [exec_Assign_Name_used _ _ _ _ used]
  apply wpAny_bind
  apply wpAny_standAt
  apply wpAny_bind
  have main := dc_core (use := some (assign (.Name y py) X.env)) (Qf := fun _ t => SP X pins D .next t) (pos := pos) (pos' := firstIterPos [⟨tg, iter, ifs, 0⟩] pos)
    calm nd I walk ok B.goes B.tests B.key B.val fold ask (by
      intro L C t m G J post ns fp
      show wpAny _ _ (assign (.Name y py) X.env (.ref L)) _ _ _
      apply wpAny_assign_Name
      refine store_ok2 (v := V.ref L) J nd at_ (.inl loc) rfl ?_ (.inr loc)
      rintro t2 J2 ⟨a, sb, who⟩
      obtain ⟨p0, p1, p2, p3, p4, p5⟩ := fp
      have far : C ≠ a := by
        rcases who with e | e
        · subst e
          exact p1
        · intro e2
          exact p4 y a e e2.symm
      refine ⟨m, ns.sameBut sb far, ?_⟩
      intro h3 sb3
      refine ⟨_, G, ?_, post⟩
      exact J2.turned (t' := t2.toks) (fun b o hb e => (sb3.2 b hb).trans e) p0 p1 p3 p4 p5)
  apply wpAny_bind
  apply thn main
  intro _ t q
  exact wpAny_pure (wpAny_pure q)
theorem dc_used {kx vx : Expr} {gs : List Comprehension} {scope : Scope} {pos py : Pos} {y : Str} {l : Nat} {env : Env} (fn : env.scope.kind = .function) (lo : env.scope.names.lookup y = some .local) (ln : (py.line == pos.line) = true)
    (no : (scope.names.any fun (n, k) => n == y && (k == .local || k == .cell)) = false) : swapsWith (.DictComp kx vx gs scope pos) (some (.Name y py)) l env = pure true := by
  have e1 : env.kindOf y = some .local := lo
  have e2 : env.blockKind = .function := by
    unfold Env.blockKind
    rw [fn]
    rfl
  unfold swapsWith
  simp only [e2, e1, no, Expr.pos, ln]
  rfl
end DQ

set_option Elab.async false
set_option linter.all false
set_option maxRecDepth 100000
set_option maxHeartbeats 1000000
namespace DQ
open PySem PySem.Spec PyProof.Rows L2
abbrev sPut : Stmt := topS 35
abbrev sTake : Stmt := topS 36
abbrev NPu : List Str := ["store", "fact", "_", "marks", "columns", "items", "facts", "item", "known", "longer"]
abbrev NTk : List Str := ["store", "fact", "_", "marks", "columns", "items", "facts", "item", "known", "other"]
theorem scPut : FnScope NPu ["store", "fact"] (defScope sPut) := ⟨rfl, rfl, rfl, by decide +kernel, rfl, by decide +kernel, by decide +kernel⟩
theorem scTake : FnScope NTk ["store", "fact"] (defScope sTake) := ⟨rfl, rfl, rfl, by decide +kernel, rfl, by decide +kernel, by decide +kernel⟩
theorem isFact_ofB {m : Nat} {S : Store} (D : Drawn m S) (x : Fact) : isFactD S.marks S.columns S.items x.d = ofB S x := by
  cases e : ofB S x with
  | true => exact isFact_of D.items.2 (ofB_iff.mp e)
  | false =>
    cases q : isFactD S.marks S.columns S.items x.d with
    | false => rfl
    | true =>
      obtain ⟨y, e1, _, _, h⟩ := isFact_fact q
      rw [fact_d_inj e1] at e
      have z : ofB S y = true := ofB_iff.mpr (by cases y <;> exact h)
      rw [z] at e
      cases e
theorem any_fact (x : Fact) (fs : List Fact) : ((fs.map Fact.d).any fun z => PyData.eqv z x.d) = decide (x ∈ fs) := by
  rw [List.any_map]
  induction fs with
  | nil => simp
  | cons y r ih =>
    rw [List.any_cons, ih]
    by_cases e : y = x
    · subst e
      rw [show ((fun z => PyData.eqv z y.d) ∘ Fact.d) y = true from (fact_eqv y y).mpr rfl]
      simp
    · rw [show ((fun z => PyData.eqv z x.d) ∘ Fact.d) y = false from Bool.eq_false_iff.mpr fun z => e ((fact_eqv y x).mp z), Bool.false_or]
      exact decide_eq_decide.mpr ⟨fun h => List.mem_cons_of_mem _ h, fun h => by
        rcases List.mem_cons.mp h with h | h
        · exact absurd h.symm e
        · exact h⟩
theorem leads_clash {x y : Fact} (h : leads x y = true) (ne : x ≠ y) : clashes x y = true := by
  cases x with
  | mark m i => cases y <;> cases h
  | link c a b =>
    cases y with
    | mark m i => cases h
    | link c' a' b' =>
      simp only [leads, Bool.and_eq_true, decide_eq_true_eq, Bool.or_eq_true] at h
      obtain ⟨rfl, q⟩ := h
      show (decide (c' = c') && _) = true
      rcases q with rfl | rfl
      · have nb : b ≠ b' := fun e => ne (by rw [e])
        simp [nb]
      · have na : a ≠ a' := fun e => ne (by rw [e])
        simp [na]
theorem clash_leads {x y : Fact} (h : clashes y x = true) : leads x y = true := by
  cases x with
  | mark m i => cases y <;> cases h
  | link c a b =>
    cases y with
    | mark m i => cases h
    | link c' a' b' =>
      have h : (decide (c' = c) && ((decide (a' = a) && !decide (b' = b)) || (decide (b' = b) && !decide (a' = a)))) = true := h
      simp only [Bool.and_eq_true, decide_eq_true_eq, Bool.or_eq_true, Bool.not_eq_true', decide_eq_false_iff_not] at h
      obtain ⟨rfl, q⟩ := h
      simp only [leads, decide_true, Bool.true_and, Bool.or_eq_true, decide_eq_true_eq]
      rcases q with ⟨q, _⟩ | ⟨q, _⟩
      · exact .inl q
      · exact .inr q
theorem noClash_put {m : Nat} {S : Store} (D : Drawn m S) {x : Fact} (nx : x ∉ S.facts) : NoClash (S.facts ++ [x]) ↔ ledB S.facts x = false := by
  constructor
  · intro n
    refine led_of fun y hy => ?_
    cases e : leads x y with
    | false => rfl
    | true =>
      have z := n x (List.mem_append_right _ (List.mem_singleton.mpr rfl)) y (List.mem_append_left _ hy)
      rw [leads_clash e (fun h => nx (by rw [h]; exact hy))] at z
      cases z
  · intro h
    refine noClash_snoc (noClash_of D.links) fun y hy => ?_
    cases e : clashes y x with
    | false => rfl
    | true =>
      have z := led_no h y hy
      rw [clash_leads e] at z
      cases z
theorem lay_edit {e : Str} (h : e ∈ editWords) : PyData.canLay0 (.str e) = true := (lay_editWords e h).1
theorem drawn_edit {x : Str} (h : x ∈ drawnWords) : x ∈ editWords := by
  simp only [drawnWords, editWords, List.mem_cons, List.not_mem_nil, or_false] at h ⊢
  rcases h with h | h | h | h | h <;> simp [h]
theorem shaped_fact {x : Fact} (h : x.word ∈ editWords) : SeqAt.shaped x.d = true := fact_shaped x (lay_edit h)
section
variable {P : Program} {w : World} {K : PySem.W.Frag} {mg : Str → Option Value} {base : Heap}
def spPut (C : Addr) : Sp := fun vs H Q E => ∃ (v w : V) (m : Nat) (S : Store) (x : Fact), vs = [v, w] ∧ StepAsks (.put x) C v w m S H Q E
theorem ok_put {f f1 f2 f3 C : Addr} {fd d1 d2 d3 : FuncData} (F : Fun K "put_fact" "put_fact" sPut f fd)
    (G1 : FnOk P w K mg base CX0 4 f1 d1 ["marks", "columns", "known", "value"] (spIsFact K)) (b1 : Binds K d1 ["marks", "columns", "known", "value"] []) (k1 : PySem.W.keepIn K (.ref f1) = true) (m1 : mg "is_fact" = some (.ref f1))
    (G2 : FnOk P w K mg base CX0 1 f2 d2 ["facts"] (spClash K)) (b2 : Binds K d2 ["facts"] []) (k2 : PySem.W.keepIn K (.ref f2) = true) (m2 : mg "first_clash" = some (.ref f2))
    (G3 : FnOk P w K mg base CX0 1 f3 d3 ["store", "items", "facts"] (spRemade K)) (b3 : Binds K d3 ["store", "items", "facts"] []) (k3 : PySem.W.keepIn K (.ref f3) = true) (m3 : mg "remade" = some (.ref f3))
    (U : ErrUse P w K mg base "InvalidFact" C) : FnOk P w K mg base (L2.CX P w) 5 f fd ["store", "fact"] (spPut C) := by
  obtain ⟨fI, fdI, ds, iC, tI, oI, bI, _, _, _⟩ := U.ok
  refine F.okX scPut (fun vs H Q E h => ?_) (fun cdv A outer s H vs Q E hr h => ?_)
  · obtain ⟨_, _, _, _, _, rfl, _⟩ := h
    rfl
  obtain ⟨v, wv, m, S, x, rfl, A0, D, hm, ⟨xa, rfl, hx⟩, hw, q1, q2⟩ := h
  have nd := scPut.nd
  refine ⟨_, pss_cons (ps_asg (pv 0) (pg_tup rfl (pgs_cons (pg_name (i := 2) nd rfl (.inl rfl)) (pgs_cons (pg_name (i := 3) nd rfl (.inl rfl)) (pgs_cons (pg_name (i := 4) nd rfl (.inl rfl)) (pgs_cons (pg_name (i := 5) nd rfl (.inl rfl)) (pgs_cons (pg_name (i := 6) nd rfl (.inl rfl)) pgs_nil)))))))
    (pss_cons (ps_setDc (i := 8) (own := [("item", 7)]) (g := gName 7) (tt := tYes) rfl nd rfl rfl (dc_used rfl rfl rfl (by rfl)) (pi_list (pv 5)) (blkOk_by (own := [("item", 7)]) (N := NPu) (sc := defScope sPut) (by decide +kernel)) ⟨fun _ _ _ _ _ => pg_name (i := 7) nd rfl (Or.inl rfl), fun _ _ _ _ _ => pts_nil, fun _ _ _ _ _ => pv 7, fun _ _ _ _ _ => pe_bl⟩)
    (pss_cons (ps_if (PW.pt (pw_or (pt_not (pt_val (pe_call G1 (hr.mono (by decide)) rfl m1 k1 b1 .nil pass0 (pa_cons (pv 3) (pa_cons (pv 4) (pa_cons (pv 8) (pa_cons (pv 1) pa_nil))))))) (pw_or1 (pt_cmpR (op_inD (room65 hr)) (pv 1) (pv 6) (by rfl))))) (pss_one (ps_raise rfl (takes_of rfl rfl rfl rfl) (pmk_oex U.T iC tI oI (hr.mono (by decide)) bI .nil pass0 (by rfl) U.g (pa_cons (pv 1) pa_nil)))) pss_nil)
    (pss_cons (ps_set (i := 9) nd rfl (.inl rfl) (pe_lst (pa_starK (K := K) rfl (pv 6) (pa_cons (pv 1) pa_nil))))
    (pss_cons (ps_if (pt_cmpR op_notN (pe_call G2 (hr.mono (by decide)) rfl m2 k2 b2 .nil pass0 (pa_cons (pv 9) pa_nil)) pe_non (nomark _)) (pss_one (ps_raise rfl (takes_of rfl rfl rfl rfl) (pmk_oex U.T iC tI oI (hr.mono (by decide)) bI .nil pass0 (by rfl) U.g (pa_cons (pv 1) pa_nil)))) pss_nil)
    (pss_one (ps_ret (pe_call G3 (hr.mono (by decide)) rfl m3 k3 b3 .nil pass0 (pa_cons (pv 0) (pa_cons (pv 5) (pa_cons (pv 9) pa_nil)))))))))), ?_⟩
  obtain ⟨t, ma, ca, ia, fa, rs, rfl, ht, hma, hca, hia, hfa, tp⟩ := id A0
  have fewI := D.few
  have short := D.short
  have lenR : rs.length = S.facts.length := by rw [tp.length, List.length_map]
  have shM := (sm_words (ms := S.marks) (fun x h => D.word (.inl h)) D.fewMarks).shaped (by decide)
  have shC := (sm_words (ms := S.columns) (fun x h => D.word (.inr h)) D.fewColumns).shaped (by decide)
  have shF := (sm_facts D (fs := S.facts) (fun x h => h) D.short).shaped (by decide)
  refine ⟨_, rfl, t, _, rfl, .inl (.inl ht), rfl, _, _, rfl, _, _, rfl, _, _, rfl, _, _, rfl, _, _, rfl, rfl, ?_⟩
  refine ⟨_, rfl, ia, rfl, ⟨_, SqL.of hia⟩, fun kd nkd => dc_known (SqL.of hia) (by omega) nkd (fun _ => rfl) (fun _ _ _ q => ⟨_, rfl, q⟩) fun H1 s1 kn => ?_⟩
  refine ⟨_, rfl, _, rfl, _, rfl, _, rfl, ma, ca, kd, S.marks, S.columns, S.items, .ref xa, x.d, rfl, SqL.of (s1 _ _ hma), SqL.of (s1 _ _ hca), shM, shC, kn, fact_dp (s1 _ _ hx), fact_parts x (lay_edit hw.1), fun H2 s2 => ?_⟩
  have s02 : Same H H2 := s1.trans s2
  rw [isFact_ofB D]
  refine ⟨_, rfl, ite2 (fun c1 => ?_) fun c1 => ?_⟩
  · have c1 : ofB S x = false := by simpa using c1
    exact ⟨_, rfl, (show 1 ≤ 1000 by decide), throw_read U.T U.noV (q2 (by simp [step, c1]) H2 s02)⟩
  have c1 : ofB S x = true := by simpa using c1
  refine ⟨_, rfl, _, rfl, x.d, S.facts.map Fact.d, fact_dp (s02 _ _ hx), .lst (SqL.of (s02 _ _ hfa)) (dp_facts (tp.keep (tk_same s02))), shaped_fact hw.1, shF, _, rfl, ?_⟩
  rw [any_fact]
  refine ite2 (fun c2 => ?_) fun c2 => ?_
  · exact ⟨_, rfl, (show 1 ≤ 1000 by decide), throw_read U.T U.noV (q2 (by simp [step, of_decide_eq_true c2]) H2 s02)⟩
  have nx : x ∉ S.facts := by simpa using c2
  refine ⟨_, rfl, fa, rs, rfl, .inr (SqL.of (s02 _ _ hfa)), _, rfl, Nat.le_trans (show (rs ++ [V.ref xa]).length ≤ 2000 by rw [List.length_append, List.length_singleton]; omega) (by decide), fun L nL => ?_⟩
  have g3 := same_new nL (o := .lst (rs ++ [V.ref xa]))
  have f3 : upd H2 L (.lst (rs ++ [V.ref xa])) L = some (.lst (rs ++ [V.ref xa])) := upd_same
  generalize upd H2 L (.lst (rs ++ [V.ref xa])) = H3 at g3 f3 ⊢
  have s03 : Same H H3 := s02.trans g3
  have tp3 : Tups H3 (rs ++ [V.ref xa]) ((S.facts ++ [x]).map Fact.v) := by
    rw [List.map_append]
    exact Tups.put (s03 _ _ hx) (tp.keep (tk_same s03))
  have nc := noClash_put D nx
  refine ⟨_, rfl, L, _, S.facts ++ [x], rfl, SqL.of f3, tp3, fun y hy => ?_, ?_, fun H4 s4 noC => ?_, fun i y v H4 s4 hi hv noC cl => ?_⟩
  · rcases List.mem_append.mp hy with h | h
    · exact lay_edit (drawn_edit (D.factWord h))
    · rw [List.mem_singleton] at h
      rw [h]
      exact lay_edit hw.1
  · rw [List.length_append, List.length_singleton]
    omega
  · have s04 : Same H H4 := s03.trans s4
    refine ⟨rfl, _, rfl, ite2 (fun c => by simp at c) fun _ => ?_⟩
    refine ⟨_, rfl, _, rfl, _, rfl, .ref t, S, ia, L, S.items, _, S.facts ++ [x], rfl, stoAt_same s04 A0, SqL.of (s04 _ _ hia), SqL.of (s4 _ _ f3), tp3.keep (tk_same s4), fun v' H' s5 n => ?_⟩
    rw [sortI_id D.items.1] at n
    exact q1 _ (by simp [step, c1, nx, nc.mp noC]) v' H' (s04.trans s5) (n.up s04)
  · obtain ⟨a, _, rfl, _⟩ := Tups.get tp3 hv
    have led : ledB S.facts x = true := by
      cases q : ledB S.facts x with
      | true => rfl
      | false =>
        obtain ⟨z, hz, cz⟩ := cl
        have w := nc.mpr q z (List.mem_of_mem_take hz) y (List.mem_of_getElem? hi)
        rw [w] at cz
        cases cz
    refine ⟨rfl, _, rfl, ite2 (fun _ => ?_) fun c => by simp at c⟩
    exact ⟨_, rfl, (show 1 ≤ 1000 by decide), throw_read U.T U.noV (q2 (by simp [step, led]) H4 (s03.trans s4))⟩
end
end DQ

set_option Elab.async false
set_option linter.all false
set_option maxRecDepth 100000
set_option maxHeartbeats 1000000
namespace DQ
open PySem PySem.Spec PyProof.Rows L2
/-- a comprehension with a test; what each turn gives, if it gives anything, is told ahead -/
theorem lc_opts {J : It} {n : Nat} {G : Hp → Prop} {Y : Nat → Hp → V → Hp → Prop} (w : Walk J n G Y) {g : TG} {tt : TT} {te : TE} {vs : List Nat} {σ : L2.St} {H1 : Hp} {D : Addr} {Qd : Hp → Prop} (os : List (Option V)) (hn : os.length = n) (few : n < sizeLine) (nD : H1 D = none)
    (hG : ∀ H, Same H1 H → G H) (hY : ∀ i H x H', Y i H x H' → Same H H')
    (hs : ∀ i x H H' o, i < n → os[i]? = some o → Same H1 H → Y i H x H' → ∀ (R : V → Hp → Prop) (N : Hp → Prop), (∀ v H4, o = some v → Same H' H4 → R v H4) → (o = none → ∀ H4, Same H' H4 → N H4) →
      g x (wipe σ vs) H' fun σ2 H2 => wipe σ2 vs = wipe σ vs ∧ tt σ2 H2 fun b H3 => if b = true then te σ2 H3 R else N H3)
    (hd : ∀ H, Same H1 H → H D = some (.lst (os.filterMap id)) → Qd H) :
    ∃ W : Nat → Nat → Hp → Prop, (∃ m, W 0 m (upd H1 D (.lst []))) ∧ ∀ i m H, W i m H →
      (J.stop i H ∧ Qd H) ∨ (J.go i H ∧ ∃ Nx : Hp → Prop, (∀ H', Nx H' → ∃ m', m' < m ∧ W (i + 1) m' H') ∧ ∀ x H', J.yld i H x H' → g x (wipe σ vs) H' fun σ2 H2 => wipe σ2 vs = wipe σ vs ∧ tt σ2 H2 fun b H3 =>
        if b = true then te σ2 H3 fun y H4 => ∃ acc, H4 D = some (.lst acc) ∧ acc.length < sizeLine ∧ Nx (upd H4 D (.lst (acc ++ [y]))) else Nx H3) := by
  refine lc_it w (fun i H => H D = some (.lst ((os.take i).filterMap id)) ∧ Same H1 H) ⟨upd_same, same_new nD⟩ (fun i H _ p => hG H p.2) (fun i x H H' hi p y => ?_) fun H p => hd H p.2 (by rw [← hn, List.take_length] at p; exact p.1)
  obtain ⟨e, s⟩ := p
  have ho : os[i]? = some os[i] := List.getElem?_eq_getElem (by omega)
  have tn : (os.take (i + 1)).filterMap id = (os.take i).filterMap id ++ (match os[i] with | some v => [v] | none => []) := by
    rw [take_next ho, List.filterMap_append, List.filterMap_cons]
    cases os[i] <;> rfl
  refine hs i x H H' _ hi ho s y _ _ (fun v H4 ev s4 => ?_) fun en H4 s4 => ?_
  · have e4 := s4 _ _ (hY _ _ _ _ y _ _ e)
    refine ⟨_, e4, ?_, ?_, same_upd ((s.trans (hY _ _ _ _ y)).trans s4) nD⟩
    · have := List.length_filterMap_le id (os.take i)
      have := List.length_take_le i os
      omega
    · rw [tn, ev]
      exact upd_same
  · refine ⟨?_, (s.trans (hY _ _ _ _ y)).trans s4⟩
    rw [tn, en, List.append_nil]
    exact s4 _ _ (hY _ _ _ _ y _ _ e)
theorem op_neDK {X : Cx} {K : PySem.W.Frag} (hk : X.K = K) (hu : X.A.units + 65 < cLine) : OpR X (compareOp .NotEq) (rNeD K) := by
  subst hk
  exact op_neD (Nat.lt_of_succ_lt hu)
theorem ne_fact (y x : Fact) : (!PyData.eqv y.d x.d) = decide (y ≠ x) := by
  by_cases e : y = x
  · subst e
    rw [show (PyData.eqv y.d y.d) = true from (fact_eqv y y).mpr rfl]
    simp
  · rw [show PyData.eqv y.d x.d = false from Bool.eq_false_iff.mpr fun z => e ((fact_eqv y x).mp z)]
    simp [e]
/-- the facts that a test keeps -/
theorem facts_kept {H : Hp} {p : Fact → Bool} : ∀ {rs : List V} {fs : List Fact}, Tups H rs (fs.map Fact.v) → Tups H (((rs.zip fs).map fun z => if p z.2 = true then some z.1 else none).filterMap id) ((fs.filter p).map Fact.v)
  | [], [], _ => .nil
  | r :: rs, x :: fs, h => by
    cases h with
    | cons a t =>
      have ih := facts_kept (p := p) t
      rw [List.zip_cons_cons, List.map_cons, List.filterMap_cons, List.filter_cons]
      cases e : p x with
      | true => exact .cons a ih
      | false => exact ih
theorem kept_at {p : Fact → Bool} {H : Hp} {rs : List V} {fs : List Fact} (tp : Tups H rs (fs.map Fact.v)) {i : Nat} {v : V} {o : Option V} (hv : rs[i]? = some v) (ho : ((rs.zip fs).map fun z => if p z.2 = true then some z.1 else none)[i]? = some o) :
    ∃ a x, v = .ref a ∧ x ∈ fs ∧ H a = some (.tup x.v) ∧ o = if p x = true then some v else none := by
  obtain ⟨a, t, e, h, k⟩ := Tups.get tp hv
  rw [List.getElem?_map] at ho
  obtain ⟨z, hz, rfl⟩ := Option.map_eq_some_iff.mp ho
  obtain ⟨h1, h2⟩ := List.getElem?_zip_eq_some.mp hz
  rw [List.getElem?_map, h2] at k
  injection k with k
  rw [hv] at h1
  injection h1 with h1
  exact ⟨a, z.2, e, List.mem_of_getElem? h2, by rw [h, ← k], by rw [h1]⟩
section
variable {P : Program} {w : World} {K : PySem.W.Frag} {mg : Str → Option Value} {base : Heap}
def spTake (C : Addr) : Sp := fun vs H Q E => ∃ (v w : V) (m : Nat) (S : Store) (x : Fact), vs = [v, w] ∧ StepAsks (.take x) C v w m S H Q E
theorem ok_take {f f1 f3 C : Addr} {fd d1 d3 : FuncData} (F : Fun K "take_fact" "take_fact" sTake f fd)
    (G1 : FnOk P w K mg base CX0 4 f1 d1 ["marks", "columns", "known", "value"] (spIsFact K)) (b1 : Binds K d1 ["marks", "columns", "known", "value"] []) (k1 : PySem.W.keepIn K (.ref f1) = true) (m1 : mg "is_fact" = some (.ref f1))
    (G3 : FnOk P w K mg base CX0 1 f3 d3 ["store", "items", "facts"] (spRemade K)) (b3 : Binds K d3 ["store", "items", "facts"] []) (k3 : PySem.W.keepIn K (.ref f3) = true) (m3 : mg "remade" = some (.ref f3))
    (U : ErrUse P w K mg base "InvalidFact" C) : FnOk P w K mg base (L2.CX P w) 5 f fd ["store", "fact"] (spTake C) := by
  obtain ⟨fI, fdI, ds, iC, tI, oI, bI, _, _, _⟩ := U.ok
  refine F.okX scTake (fun vs H Q E h => ?_) (fun cdv A outer s H vs Q E hr h => ?_)
  · obtain ⟨_, _, _, _, _, rfl, _⟩ := h
    rfl
  obtain ⟨v, wv, m, S, x, rfl, A0, D, hm, ⟨xa, rfl, hx⟩, hw, q1, q2⟩ := h
  have nd := scTake.nd
  refine ⟨_, pss_cons (ps_asg (pv 0) (pg_tup rfl (pgs_cons (pg_name (i := 2) nd rfl (.inl rfl)) (pgs_cons (pg_name (i := 3) nd rfl (.inl rfl)) (pgs_cons (pg_name (i := 4) nd rfl (.inl rfl)) (pgs_cons (pg_name (i := 5) nd rfl (.inl rfl)) (pgs_cons (pg_name (i := 6) nd rfl (.inl rfl)) pgs_nil)))))))
    (pss_cons (ps_setDc (i := 8) (own := [("item", 7)]) (g := gName 7) (tt := tYes) rfl nd rfl rfl (dc_used rfl rfl rfl (by rfl)) (pi_list (pv 5)) (blkOk_by (own := [("item", 7)]) (N := NTk) (sc := defScope sTake) (by decide +kernel)) ⟨fun _ _ _ _ _ => pg_name (i := 7) nd rfl (Or.inl rfl), fun _ _ _ _ _ => pts_nil, fun _ _ _ _ _ => pv 7, fun _ _ _ _ _ => pe_bl⟩)
    (pss_cons (ps_if (PW.pt (pw_or (pt_not (pt_val (pe_call G1 (hr.mono (by decide)) rfl m1 k1 b1 .nil pass0 (pa_cons (pv 3) (pa_cons (pv 4) (pa_cons (pv 8) (pa_cons (pv 1) pa_nil))))))) (pw_or1 (pt_cmpR (op_notInD (room65 hr)) (pv 1) (pv 6) (by rfl))))) (pss_one (ps_raise rfl (takes_of rfl rfl rfl rfl) (pmk_oex U.T iC tI oI (hr.mono (by decide)) bI .nil pass0 (by rfl) U.g (pa_cons (pv 1) pa_nil)))) pss_nil)
    (pss_one (ps_ret (pe_call G3 (hr.mono (by decide)) rfl m3 k3 b3 .nil pass0 (pa_cons (pv 0) (pa_cons (pv 5) (pa_cons (pe_lc (own := [("other", 9)]) (g := gName 9) rfl nd (pi_list (pv 6)) (blkOk_by (own := [("other", 9)]) (N := NTk) (sc := defScope sTake) (by decide +kernel)) (fun _ _ _ _ _ => pg_name (i := 9) nd rfl (Or.inl rfl))
        (fun _ _ _ _ _ => pts_one (pt_cmpR (op_neDK (K := K) rfl (room65 hr)) (pv 9) (pv 1) (nomark _))) (fun _ _ _ _ _ => pv 9)) pa_nil)))))))), ?_⟩
  obtain ⟨t, ma, ca, ia, fa, rs, rfl, ht, hma, hca, hia, hfa, tp⟩ := id A0
  have fewI := D.few
  have short := D.short
  have lenR : rs.length = S.facts.length := by rw [tp.length, List.length_map]
  have shM := (sm_words (ms := S.marks) (fun x h => D.word (.inl h)) D.fewMarks).shaped (by decide)
  have shC := (sm_words (ms := S.columns) (fun x h => D.word (.inr h)) D.fewColumns).shaped (by decide)
  have shF := (sm_facts D (fs := S.facts) (fun x h => h) D.short).shaped (by decide)
  refine ⟨_, rfl, t, _, rfl, .inl (.inl ht), rfl, _, _, rfl, _, _, rfl, _, _, rfl, _, _, rfl, _, _, rfl, rfl, ?_⟩
  refine ⟨_, rfl, ia, rfl, ⟨_, SqL.of hia⟩, fun kd nkd => dc_known (SqL.of hia) (by omega) nkd (fun _ => rfl) (fun _ _ _ q => ⟨_, rfl, q⟩) fun H1 s1 kn => ?_⟩
  refine ⟨_, rfl, _, rfl, _, rfl, _, rfl, ma, ca, kd, S.marks, S.columns, S.items, .ref xa, x.d, rfl, SqL.of (s1 _ _ hma), SqL.of (s1 _ _ hca), shM, shC, kn, fact_dp (s1 _ _ hx), fact_parts x (lay_edit hw.1), fun H2 s2 => ?_⟩
  have s02 : Same H H2 := s1.trans s2
  rw [isFact_ofB D]
  have out : x ∉ S.facts → Throws E C (V.ref xa) H2 := fun no => q2 (by simp [step, no]) H2 s02
  refine ⟨_, rfl, ite2 (fun c1 => ?_) fun c1 => ?_⟩
  · have c1 : ofB S x = false := by simpa using c1
    exact ⟨_, rfl, (show 1 ≤ 1000 by decide), throw_read U.T U.noV (out fun h => by rw [ofB_iff.mpr (D.facts x h)] at c1; cases c1)⟩
  have c1 : ofB S x = true := by simpa using c1
  refine ⟨_, rfl, _, rfl, x.d, S.facts.map Fact.d, fact_dp (s02 _ _ hx), .lst (SqL.of (s02 _ _ hfa)) (dp_facts (tp.keep (tk_same s02))), shaped_fact hw.1, shF, _, rfl, ?_⟩
  rw [any_fact]
  refine ite2 (fun c2 => ?_) fun c2 => ?_
  · exact ⟨_, rfl, (show 1 ≤ 1000 by decide), throw_read U.T U.noV (out (by simpa using c2))⟩
  have inx : x ∈ S.facts := by simpa using c2
  refine ⟨_, rfl, _, rfl, _, rfl, fa, rfl, ⟨_, SqL.of (s02 _ _ hfa)⟩, fun L nL => ?_⟩
  refine lc_opts (walk_list (K := K) (a := fa) (xs := rs)) ((rs.zip S.facts).map fun z => if decide (z.2 ≠ x) = true then some z.1 else none) (by rw [List.length_map, List.length_zip, lenR, Nat.min_self]) (Nat.lt_of_le_of_lt (show rs.length ≤ 1000 by omega) (by decide)) nL (fun H' s' => SqL.of (s' _ _ (s02 _ _ hfa)))
    (fun i H' v H'' y => by rw [y.1]; exact fun _ _ h => h) (fun i v H' H'' o hi ho s' y R N hR hN => ?_) fun H3 s3 e3 => ?_
  · obtain ⟨rfl, hv⟩ := y
    obtain ⟨a, z, rfl, hz, ha, rfl⟩ := kept_at (p := fun y => decide (y ≠ x)) tp hv ho
    refine ⟨rfl, _, rfl, _, rfl, z.d, x.d, fact_dp (s' _ _ (s02 _ _ ha)), fact_dp (s' _ _ (s02 _ _ hx)), shaped_fact (drawn_edit (D.factWord hz)), shaped_fact hw.1, ?_⟩
    refine ⟨_, rfl, ?_⟩
    rw [ne_fact]
    refine ite2 (fun c => ?_) fun c => ?_
    · exact ⟨_, rfl, hR _ H'' (by rw [if_pos c]) (fun _ _ h => h)⟩
    · exact hN (by rw [if_neg c]) H'' (fun _ _ h => h)
  have s03 : Same H H3 := s02.trans s3
  have tpk := facts_kept (p := fun y => decide (y ≠ x)) (tp.keep (tk_same s03))
  generalize (List.map (fun z : V × Fact => if decide (z.2 ≠ x) = true then some z.1 else none) (rs.zip S.facts)).filterMap id = ks at e3 tpk ⊢
  refine ⟨.ref t, S, ia, L, S.items, ks, S.facts.filter fun y => decide (y ≠ x), rfl, stoAt_same s03 A0, SqL.of (s03 _ _ hia), SqL.of e3, tpk, fun v' H' s5 n => ?_⟩
  rw [sortI_id D.items.1, sortF_id (D.rise.sublist List.filter_sublist)] at n
  exact q1 _ (by simp only [step, if_pos inx]) v' H' (s03.trans s5) (n.up s03)
end
end DQ

set_option Elab.async false
set_option linter.all false
set_option maxRecDepth 100000
set_option maxHeartbeats 1000000
namespace DQ
open PySem PySem.Spec PyProof.Rows L2
section
variable {P : Program} {w : World} {K : PySem.W.Frag} {mg : Str → Option Value} {base : Heap}
/-- a def that keeps each of two promises keeps the one that asks either -/
theorem fnOk_or {CX : CXT} {k : Nat} {f : Addr} {fd : FuncData} {ps : List Str} {sp sp' : Sp} (F : FnOk P w K mg base CX k f fd ps sp) (F' : FnOk P w K mg base CX k f fd ps sp') : FnOk P w K mg base CX k f fd ps (fun vs H Q E => sp vs H Q E ∨ sp' vs H Q E) :=
  ⟨fun vs H Q E h => h.elim (F.len vs H Q E) (F'.len vs H Q E), fun A outer s H args us vs Q E hr e0 b r h => h.elim (F.run A outer s H args us vs Q E hr e0 b r) (F'.run A outer s H args us vs Q E hr e0 b r)⟩
/-- what is no fact of a store is refused -/
def spNoFact (K : PySem.W.Frag) (C : Addr) : Sp := fun vs H Q E => ∃ (v w : V) (m : Nat) (S : Store) (d : PyData), vs = [v, w] ∧ StoAt H v S ∧ Drawn m S ∧ m ≤ 2000 ∧ Dp K H w d ∧ Parts d ∧ isFactD S.marks S.columns S.items d = false ∧ ∀ H', Same H H' → Throws E C w H'
theorem ok_putNo {f f1 f2 f3 C : Addr} {fd d1 d2 d3 : FuncData} (F : Fun K "put_fact" "put_fact" sPut f fd)
    (G1 : FnOk P w K mg base CX0 4 f1 d1 ["marks", "columns", "known", "value"] (spIsFact K)) (b1 : Binds K d1 ["marks", "columns", "known", "value"] []) (k1 : PySem.W.keepIn K (.ref f1) = true) (m1 : mg "is_fact" = some (.ref f1))
    (G2 : FnOk P w K mg base CX0 1 f2 d2 ["facts"] (spClash K)) (b2 : Binds K d2 ["facts"] []) (k2 : PySem.W.keepIn K (.ref f2) = true) (m2 : mg "first_clash" = some (.ref f2))
    (G3 : FnOk P w K mg base CX0 1 f3 d3 ["store", "items", "facts"] (spRemade K)) (b3 : Binds K d3 ["store", "items", "facts"] []) (k3 : PySem.W.keepIn K (.ref f3) = true) (m3 : mg "remade" = some (.ref f3))
    (U : ErrUse P w K mg base "InvalidFact" C) : FnOk P w K mg base (L2.CX P w) 5 f fd ["store", "fact"] (spNoFact K C) := by
  obtain ⟨fI, fdI, ds, iC, tI, oI, bI, _, _, _⟩ := U.ok
  refine F.okX scPut (fun vs H Q E h => ?_) (fun cdv A outer s H vs Q E hr h => ?_)
  · obtain ⟨_, _, _, _, _, rfl, _⟩ := h
    rfl
  obtain ⟨v, wv, m, S, d, rfl, A0, D, hm, hd, parts, bad, q⟩ := h
  have nd := scPut.nd
  refine ⟨_, pss_cons (ps_asg (pv 0) (pg_tup rfl (pgs_cons (pg_name (i := 2) nd rfl (.inl rfl)) (pgs_cons (pg_name (i := 3) nd rfl (.inl rfl)) (pgs_cons (pg_name (i := 4) nd rfl (.inl rfl)) (pgs_cons (pg_name (i := 5) nd rfl (.inl rfl)) (pgs_cons (pg_name (i := 6) nd rfl (.inl rfl)) pgs_nil)))))))
    (pss_cons (ps_setDc (i := 8) (own := [("item", 7)]) (g := gName 7) (tt := tYes) rfl nd rfl rfl (dc_used rfl rfl rfl (by rfl)) (pi_list (pv 5)) (blkOk_by (own := [("item", 7)]) (N := NPu) (sc := defScope sPut) (by decide +kernel)) ⟨fun _ _ _ _ _ => pg_name (i := 7) nd rfl (Or.inl rfl), fun _ _ _ _ _ => pts_nil, fun _ _ _ _ _ => pv 7, fun _ _ _ _ _ => pe_bl⟩)
    (pss_cons (ps_if (PW.pt (pw_or (pt_not (pt_val (pe_call G1 (hr.mono (by decide)) rfl m1 k1 b1 .nil pass0 (pa_cons (pv 3) (pa_cons (pv 4) (pa_cons (pv 8) (pa_cons (pv 1) pa_nil))))))) (pw_or1 (pt_cmpR (op_inD (room65 hr)) (pv 1) (pv 6) (by rfl))))) (pss_one (ps_raise rfl (takes_of rfl rfl rfl rfl) (pmk_oex U.T iC tI oI (hr.mono (by decide)) bI .nil pass0 (by rfl) U.g (pa_cons (pv 1) pa_nil)))) pss_nil)
    (pss_cons (ps_set (i := 9) nd rfl (.inl rfl) (pe_lst (pa_starK (K := K) rfl (pv 6) (pa_cons (pv 1) pa_nil))))
    (pss_cons (ps_if (pt_cmpR op_notN (pe_call G2 (hr.mono (by decide)) rfl m2 k2 b2 .nil pass0 (pa_cons (pv 9) pa_nil)) pe_non (nomark _)) (pss_one (ps_raise rfl (takes_of rfl rfl rfl rfl) (pmk_oex U.T iC tI oI (hr.mono (by decide)) bI .nil pass0 (by rfl) U.g (pa_cons (pv 1) pa_nil)))) pss_nil)
    (pss_one (ps_ret (pe_call G3 (hr.mono (by decide)) rfl m3 k3 b3 .nil pass0 (pa_cons (pv 0) (pa_cons (pv 5) (pa_cons (pv 9) pa_nil)))))))))), ?_⟩
  obtain ⟨t, ma, ca, ia, fa, rs, rfl, ht, hma, hca, hia, hfa, tp⟩ := id A0
  have fewI := D.few
  have shM := (sm_words (ms := S.marks) (fun x h => D.word (.inl h)) D.fewMarks).shaped (by decide)
  have shC := (sm_words (ms := S.columns) (fun x h => D.word (.inr h)) D.fewColumns).shaped (by decide)
  refine ⟨_, rfl, t, _, rfl, .inl (.inl ht), rfl, _, _, rfl, _, _, rfl, _, _, rfl, _, _, rfl, _, _, rfl, rfl, ?_⟩
  refine ⟨_, rfl, ia, rfl, ⟨_, SqL.of hia⟩, fun kd nkd => dc_known (SqL.of hia) (by omega) nkd (fun _ => rfl) (fun _ _ _ q => ⟨_, rfl, q⟩) fun H1 s1 kn => ?_⟩
  refine ⟨_, rfl, _, rfl, _, rfl, _, rfl, ma, ca, kd, S.marks, S.columns, S.items, wv, d, rfl, SqL.of (s1 _ _ hma), SqL.of (s1 _ _ hca), shM, shC, kn, dp_same s1 _ _ hd, parts, fun H2 s2 => ?_⟩
  rw [bad]
  exact ⟨_, rfl, ite2 (fun _ => ⟨_, rfl, (show 1 ≤ 1000 by decide), throw_read U.T U.noV (q H2 (s1.trans s2))⟩) fun c => absurd rfl c⟩
theorem ok_takeNo {f f1 f3 C : Addr} {fd d1 d3 : FuncData} (F : Fun K "take_fact" "take_fact" sTake f fd)
    (G1 : FnOk P w K mg base CX0 4 f1 d1 ["marks", "columns", "known", "value"] (spIsFact K)) (b1 : Binds K d1 ["marks", "columns", "known", "value"] []) (k1 : PySem.W.keepIn K (.ref f1) = true) (m1 : mg "is_fact" = some (.ref f1))
    (G3 : FnOk P w K mg base CX0 1 f3 d3 ["store", "items", "facts"] (spRemade K)) (b3 : Binds K d3 ["store", "items", "facts"] []) (k3 : PySem.W.keepIn K (.ref f3) = true) (m3 : mg "remade" = some (.ref f3))
    (U : ErrUse P w K mg base "InvalidFact" C) : FnOk P w K mg base (L2.CX P w) 5 f fd ["store", "fact"] (spNoFact K C) := by
  obtain ⟨fI, fdI, ds, iC, tI, oI, bI, _, _, _⟩ := U.ok
  refine F.okX scTake (fun vs H Q E h => ?_) (fun cdv A outer s H vs Q E hr h => ?_)
  · obtain ⟨_, _, _, _, _, rfl, _⟩ := h
    rfl
  obtain ⟨v, wv, m, S, d, rfl, A0, D, hm, hd, parts, bad, q⟩ := h
  have nd := scTake.nd
  refine ⟨_, pss_cons (ps_asg (pv 0) (pg_tup rfl (pgs_cons (pg_name (i := 2) nd rfl (.inl rfl)) (pgs_cons (pg_name (i := 3) nd rfl (.inl rfl)) (pgs_cons (pg_name (i := 4) nd rfl (.inl rfl)) (pgs_cons (pg_name (i := 5) nd rfl (.inl rfl)) (pgs_cons (pg_name (i := 6) nd rfl (.inl rfl)) pgs_nil)))))))
    (pss_cons (ps_setDc (i := 8) (own := [("item", 7)]) (g := gName 7) (tt := tYes) rfl nd rfl rfl (dc_used rfl rfl rfl (by rfl)) (pi_list (pv 5)) (blkOk_by (own := [("item", 7)]) (N := NTk) (sc := defScope sTake) (by decide +kernel)) ⟨fun _ _ _ _ _ => pg_name (i := 7) nd rfl (Or.inl rfl), fun _ _ _ _ _ => pts_nil, fun _ _ _ _ _ => pv 7, fun _ _ _ _ _ => pe_bl⟩)
    (pss_cons (ps_if (PW.pt (pw_or (pt_not (pt_val (pe_call G1 (hr.mono (by decide)) rfl m1 k1 b1 .nil pass0 (pa_cons (pv 3) (pa_cons (pv 4) (pa_cons (pv 8) (pa_cons (pv 1) pa_nil))))))) (pw_or1 (pt_cmpR (op_notInD (room65 hr)) (pv 1) (pv 6) (by rfl))))) (pss_one (ps_raise rfl (takes_of rfl rfl rfl rfl) (pmk_oex U.T iC tI oI (hr.mono (by decide)) bI .nil pass0 (by rfl) U.g (pa_cons (pv 1) pa_nil)))) pss_nil)
    (pss_one (ps_ret (pe_call G3 (hr.mono (by decide)) rfl m3 k3 b3 .nil pass0 (pa_cons (pv 0) (pa_cons (pv 5) (pa_cons (pe_lc (own := [("other", 9)]) (g := gName 9) rfl nd (pi_list (pv 6)) (blkOk_by (own := [("other", 9)]) (N := NTk) (sc := defScope sTake) (by decide +kernel)) (fun _ _ _ _ _ => pg_name (i := 9) nd rfl (Or.inl rfl))
        (fun _ _ _ _ _ => pts_one (pt_cmpR (op_neDK (K := K) rfl (room65 hr)) (pv 9) (pv 1) (nomark _))) (fun _ _ _ _ _ => pv 9)) pa_nil)))))))), ?_⟩
  obtain ⟨t, ma, ca, ia, fa, rs, rfl, ht, hma, hca, hia, hfa, tp⟩ := id A0
  have fewI := D.few
  have shM := (sm_words (ms := S.marks) (fun x h => D.word (.inl h)) D.fewMarks).shaped (by decide)
  have shC := (sm_words (ms := S.columns) (fun x h => D.word (.inr h)) D.fewColumns).shaped (by decide)
  refine ⟨_, rfl, t, _, rfl, .inl (.inl ht), rfl, _, _, rfl, _, _, rfl, _, _, rfl, _, _, rfl, _, _, rfl, rfl, ?_⟩
  refine ⟨_, rfl, ia, rfl, ⟨_, SqL.of hia⟩, fun kd nkd => dc_known (SqL.of hia) (by omega) nkd (fun _ => rfl) (fun _ _ _ q => ⟨_, rfl, q⟩) fun H1 s1 kn => ?_⟩
  refine ⟨_, rfl, _, rfl, _, rfl, _, rfl, ma, ca, kd, S.marks, S.columns, S.items, wv, d, rfl, SqL.of (s1 _ _ hma), SqL.of (s1 _ _ hca), shM, shC, kn, dp_same s1 _ _ hd, parts, fun H2 s2 => ?_⟩
  rw [bad]
  exact ⟨_, rfl, ite2 (fun _ => ⟨_, rfl, (show 1 ≤ 1000 by decide), throw_read U.T U.noV (q H2 (s1.trans s2))⟩) fun c => absurd rfl c⟩
end
end DQ

set_option Elab.async false
set_option linter.all false
set_option maxRecDepth 100000
set_option maxHeartbeats 400000
namespace DQ
open PySem PySem.Spec PyProof.Rows L2
abbrev sCheck : Stmt := topS 31
abbrev sIsItem : Stmt := topS 32
theorem scCheck : FnScope ["store"] ["store"] (defScope sCheck) := ⟨rfl, rfl, rfl, by decide +kernel, rfl, by decide +kernel, by decide +kernel⟩
theorem scIsItem : FnScope ["store", "value"] ["store", "value"] (defScope sIsItem) := ⟨rfl, rfl, rfl, by decide +kernel, rfl, by decide +kernel, by decide +kernel⟩
theorem flat_intsV (ns : List Int) : (ns.map V.int).all flatV = true := List.all_eq_true.mpr fun v hv => by
  obtain ⟨x, _, rfl⟩ := List.mem_map.mp hv
  rfl
theorem inV_int (i : Int) : ∀ ns : List Int, inV (.int i) (ns.map V.int) = decide (i ∈ ns)
  | [] => rfl
  | x :: r => by
    have ih := inV_int i r
    show ((x == i) || inV (.int i) (r.map V.int)) = _
    rw [ih]
    by_cases h : x = i
    · rw [h]; simp
    · rw [beq_eq_false_iff_ne.mpr h, Bool.false_or]
      exact decide_eq_decide.mpr ⟨fun z => List.mem_cons_of_mem _ z, fun z => by
        rcases List.mem_cons.mp z with z | z
        · exact absurd z.symm h
        · exact z⟩
theorem isStore_mono {K : PySem.W.Frag} {vs : List V} {H : Hp} {Q Q2 : VK} {E E2 : XK} (h : spIsStore K vs H Q E) (m : ∀ x H1, Q x H1 → Q2 x H1) : spIsStore K vs H Q2 E2 := by
  obtain ⟨v, e, h⟩ := h
  refine ⟨v, e, ?_⟩
  rcases h with ⟨d, hd, n5, q⟩ | ⟨t, s, m', c, i, f, ds, dm, dc, di, df, e1, e2, e3, e4, e5, e6, e7, e8, e9, e10, e11, e12, e13, q⟩
  · exact .inl ⟨d, hd, n5, fun H' s => m _ _ (q H' s)⟩
  · exact .inr ⟨t, s, m', c, i, f, ds, dm, dc, di, df, e1, e2, e3, e4, e5, e6, e7, e8, e9, e10, e11, e12, e13, fun H' s => m _ _ (q H' s)⟩
section
variable {P : Program} {w : World} {K : PySem.W.Frag} {mg : Str → Option Value} {base : Heap}
def spCheck (K : PySem.W.Frag) (C : Addr) : Sp := fun vs H Q E => ∃ (v : V) (b : Bool), vs = [v] ∧ spIsStore K [v] H (fun x H1 => x = .bl b ∧ (b = true → Q .non H1) ∧ (b = false → Throws E C v H1)) (fun _ _ _ => False)
theorem ok_check {f fs C : Addr} {fd fds : FuncData} (F : Fun K "check_store" "check_store" sCheck f fd) (GS : FnOk P w K mg base CX0 6 fs fds ["value"] (spIsStore K)) (bS : Binds K fds ["value"] []) (kS : PySem.W.keepIn K (.ref fs) = true) (mS : mg "is_store" = some (.ref fs))
    (U : ErrUse P w K mg base "InvalidStore" C) : FnOk P w K mg base (L2.CX P w) 7 f fd ["store"] (spCheck K C) := by
  obtain ⟨fI, fdI, ds, iC, tI, oI, bI, _, _, _⟩ := U.ok
  refine F.okX scCheck (fun vs H Q E h => ?_) (fun cdv A outer s H vs Q E hr h => ?_)
  · obtain ⟨_, _, rfl, _⟩ := h
    rfl
  obtain ⟨v, b, rfl, h⟩ := h
  refine ⟨_, pss_one (ps_if (pt_not (pt_val (pe_call GS (hr.mono (by decide)) rfl mS kS bS .nil pass0 (pa_cons (pv 0) pa_nil)))) (pss_one (ps_raise rfl (takes_of rfl rfl rfl rfl) (pmk_oex U.T iC tI oI (hr.mono (by decide)) bI .nil pass0 (by rfl) U.g (pa_cons (pv 0) pa_nil)))) pss_nil), ?_⟩
  obtain ⟨_, e, h⟩ := h
  cases e
  refine ⟨_, rfl, v, rfl, ?_⟩
  rcases h with ⟨d, hd, n5, q⟩ | ⟨t, s, m', c, i, f, ds, dm, dc, di, df, e1, e2, e3, e4, e5, e6, e7, e8, e9, e10, e11, e12, e13, q⟩
  · refine .inl ⟨d, hd, n5, fun H1 sm => ?_⟩
    obtain ⟨e, h1, h2⟩ := q H1 sm
    injection e with e
    exact ⟨_, rfl, _, rfl, (show 1 ≤ 1000 by decide), throw_read U.T U.noV (h2 e.symm)⟩
  · refine .inr ⟨t, s, m', c, i, f, ds, dm, dc, di, df, e1, e2, e3, e4, e5, e6, e7, e8, e9, e10, e11, e12, e13, fun H1 sm => ?_⟩
    obtain ⟨e, h1, h2⟩ := q H1 sm
    injection e with e
    rw [e]
    refine ⟨b, rfl, ite2 (fun c => ?_) fun c => ?_⟩
    · have c : b = false := by simpa using c
      exact ⟨_, rfl, (show 1 ≤ 1000 by decide), throw_read U.T U.noV (h2 c)⟩
    · have c : b = true := by simpa using c
      exact h1 c
/-- value in store[3], a number -/
def spIsItem (K : PySem.W.Frag) : Sp := fun vs H Q _ => ∃ (t ia : Addr) (a b c e : V) (ns : List Int) (v : V) (d : PyData), vs = [.ref t, v] ∧ SqT K H t [a, b, c, .ref ia, e] ∧ SqL K H ia (ns.map V.int) ∧ Dp K H v d ∧ Q (.bl (okItem ns d)) H
theorem ok_isItem {f fn : Addr} {fd fdn : FuncData} (F : Fun K "is_item" "is_item" sIsItem f fd) (GN : FnOk P w K mg base CX0 3 fn fdn ["value"] (spNumber K)) (bN : Binds K fdn ["value"] []) (kN : PySem.W.keepIn K (.ref fn) = true) (mN : mg "is_number" = some (.ref fn)) :
    FnOk P w K mg base CX0 4 f fd ["store", "value"] (spIsItem K) := by
  refine F.ok scIsItem (fun vs H Q E h => ?_) (fun cdv A outer s H vs Q E hr h => ?_)
  · obtain ⟨_, _, _, _, _, _, _, _, _, rfl, _⟩ := h
    rfl
  obtain ⟨t, ia, a, b, c, e, ns, v, d, rfl, ht, hi, hd, q⟩ := h
  refine ⟨_, pss_one (ps_ret (pe_and (pe_call GN (hr.mono (by decide)) rfl mN kN bN .nil pass0 (pa_cons (pv 1) pa_nil)) (pe_one (pe_cmpR op_in_seq (pv 1) (pe_ix (r := rIxT K) ix_tup (pv 0) pe_int (fun _ _ => rfl)) (by rfl))))), ?_⟩
  refine ⟨_, rfl, v, d, rfl, hd, _, rfl, ite2 (fun c1 => ?_) fun c1 => ?_⟩
  · cases hd with
    | int i =>
      refine ⟨_, rfl, _, rfl, t, _, 3, .ref ia, rfl, rfl, ht, atI_nat (j := 3) rfl, ia, _, rfl, .inl hi, rfl, flat_intsV ns, ?_⟩
      have e1 : inV (.int i) (ns.map V.int) = decide (i ∈ ns) := inV_int i ns
      have e2 : okItem ns (.int i) = decide (i ∈ ns) := by
        show (numD (.int i) && decide (i ∈ ns)) = _
        rw [c1, Bool.true_and]
      rw [e2] at q
      show Q (.bl (inV (.int i) (ns.map V.int))) H
      rw [e1]
      exact q
    | _ => exact absurd c1 (by simp [numD])
  · have e2 : okItem ns d = false := by
      unfold okItem
      rw [Bool.eq_false_iff.mpr c1, Bool.false_and]
    rw [e2] at q
    exact q
end
end DQ

set_option Elab.async false
set_option linter.all false
set_option maxRecDepth 100000
set_option maxHeartbeats 1000000
namespace DQ
open PySem PySem.Spec PyProof.Rows L2
abbrev sAdd : Stmt := topS 37
abbrev sDrop : Stmt := topS 38
abbrev NAd : List Str := ["store", "item", "many"]
abbrev NDr : List Str := ["store", "item", "fact", "other"]
theorem scAdd : FnScope NAd ["store", "item"] (defScope sAdd) := ⟨rfl, rfl, rfl, by decide +kernel, rfl, by decide +kernel, by decide +kernel⟩
theorem scDrop : FnScope NDr ["store", "item"] (defScope sDrop) := ⟨rfl, rfl, rfl, by decide +kernel, rfl, by decide +kernel, by decide +kernel⟩
theorem numD_int {i : Int} (h : 0 ≤ i ∧ i ≤ 1000000000) : numD (.int i) = true := by simp [numD, h.1, h.2]
theorem okItem_num {ns : List Int} {i : Int} (h : 0 ≤ i ∧ i ≤ 1000000000) : okItem ns (.int i) = decide (i ∈ ns) := by
  show (numD (.int i) && decide (i ∈ ns)) = _
  rw [numD_int h, Bool.true_and]
section
variable {P : Program} {w : World} {K : PySem.W.Frag} {mg : Str → Option Value} {base : Heap}
def spAdd (C : Addr) : Sp := fun vs H Q E => ∃ (v w : V) (m : Nat) (S : Store) (i : Int), vs = [v, w] ∧ StepAsks (.add i) C v w m S H Q E
theorem ok_add {f f1 f2 f3 C C' : Addr} {fd d1 d2 d3 : FuncData} {t1 : Tok} (F : Fun K "add_item" "add_item" sAdd f fd)
    (G1 : FnOk P w K mg base CX0 3 f1 d1 ["value"] (spNumber K)) (b1 : Binds K d1 ["value"] []) (k1 : PySem.W.keepIn K (.ref f1) = true) (m1 : mg "is_number" = some (.ref f1))
    (G2 : FnOk P w K mg base CX0 4 f2 d2 ["store", "value"] (spIsItem K)) (b2 : Binds K d2 ["store", "value"] []) (k2 : PySem.W.keepIn K (.ref f2) = true) (m2 : mg "is_item" = some (.ref f2))
    (G3 : FnOk P w K mg base CX0 1 f3 d3 ["store", "items", "facts"] (spRemade K)) (b3 : Binds K d3 ["store", "items", "facts"] []) (k3 : PySem.W.keepIn K (.ref f3) = true) (m3 : mg "remade" = some (.ref f3))
    (mLen : mg "len" = none) (mM : mg "MOST_ITEMS" = some (.int 2000 t1))
    (U : ErrUse P w K mg base "InvalidItem" C) (U' : ErrUse P w K mg base "TooMany" C') : FnOk P w K mg base (L2.CX P w) 5 f fd ["store", "item"] (spAdd C) := by
  obtain ⟨fI, fdI, ds, iC, tI, oI, bI, _, _, _⟩ := U.ok
  obtain ⟨fI', fdI', ds', iC', tI', oI', bI', _, _, _⟩ := U'.ok
  refine F.okX scAdd (fun vs H Q E h => ?_) (fun cdv A outer s H vs Q E hr h => ?_)
  · obtain ⟨_, _, _, _, _, rfl, _⟩ := h
    rfl
  obtain ⟨v, wv, m, S, i, rfl, A0, D, hm, rfl, bd, q1, q2⟩ := h
  have bd : 0 ≤ i ∧ i ≤ 1000000000 := bd
  have nd := scAdd.nd
  refine ⟨_, pss_cons (ps_if (PW.pt (pw_or (pt_not (pt_val (pe_call G1 (hr.mono (by decide)) rfl m1 k1 b1 .nil pass0 (pa_cons (pv 1) pa_nil)))) (pw_or1 (pt_val (pe_call G2 (hr.mono (by decide)) rfl m2 k2 b2 .nil pass0 (pa_cons (pv 0) (pa_cons (pv 1) pa_nil)))))))
      (pss_one (ps_raise rfl (takes_of rfl rfl rfl rfl) (pmk_oex U.T iC tI oI (hr.mono (by decide)) bI .nil pass0 (by rfl) U.g (pa_cons (pv 1) pa_nil)))) pss_nil)
    (pss_cons (ps_set (i := 2) nd rfl (.inl rfl) (pe_op op_add (pe_callB call_len_seq (by rfl) mLen PySem.boot_len (pa_cons (pe_ix (r := rIxT K) ix_tup (pv 0) pe_int (fun _ _ => rfl)) pa_nil)) pe_int))
    (pss_cons (ps_if (pt_cmpR op_gt (pv 2) (pe_glob (v := .int 2000) (by rfl) mM ⟨_, rfl⟩) (nomark _))
      (pss_one (ps_raise rfl (takes_of rfl rfl rfl rfl) (pmk_oex U'.T iC' tI' oI' (hr.mono (by decide)) bI' .nil pass0 (by rfl) U'.g (pa_cons (pv 2) pa_nil)))) pss_nil)
    (pss_one (ps_ret (pe_call G3 (hr.mono (by decide)) rfl m3 k3 b3 .nil pass0 (pa_cons (pv 0) (pa_cons (pe_lst (pa_starK (K := K) rfl (pe_ix (r := rIxT K) ix_tup (pv 0) pe_int (fun _ _ => rfl)) (pa_cons (pv 1) pa_nil))) (pa_cons (pe_ix (r := rIxT K) ix_tup (pv 0) pe_int (fun _ _ => rfl)) pa_nil)))))))), ?_⟩
  obtain ⟨t, ma, ca, ia, fa, rs, rfl, ht, hma, hca, hia, hfa, tp⟩ := id A0
  have fewI := D.few
  refine ⟨_, rfl, .int i, .int i, rfl, .int i, _, rfl, ?_⟩
  rw [numD_int bd]
  refine ite2 (fun c => by simp at c) fun _ => ?_
  refine ⟨_, rfl, _, rfl, t, ia, _, _, _, _, S.items, .int i, .int i, rfl, .inl (.inl ht), SqL.of hia, .int i, ?_⟩
  rw [okItem_num bd]
  refine ⟨_, rfl, ite2 (fun c1 => ?_) fun c1 => ?_⟩
  · exact ⟨_, rfl, (show 1 ≤ 1000 by decide), throw_read U.T U.noV (q2 (by simp [step, of_decide_eq_true c1]) H (fun _ _ h => h))⟩
  have ni : i ∉ S.items := by simpa using c1
  refine ⟨_, rfl, t, _, 3, .ref ia, rfl, rfl, .inl (.inl ht), atI_nat (j := 3) rfl, ia, _, rfl, .inl (SqL.of hia), _, _, rfl, rfl, ?_⟩
  rw [List.length_map]
  refine ⟨_, rfl, _, _, rfl, rfl, _, rfl, ite2 (fun c => ?_) fun _ => ?_⟩
  · have c := of_decide_eq_true c
    omega
  refine ⟨_, rfl, _, rfl, t, _, 3, .ref ia, rfl, rfl, .inl (.inl ht), atI_nat (j := 3) rfl, ia, _, rfl, .inr (SqL.of hia), _, rfl, Nat.le_trans (show (S.items.map V.int ++ [V.int i]).length ≤ 2000 by rw [List.length_append, List.length_singleton, List.length_map]; omega) (by decide), fun L nL => ?_⟩
  have e : S.items.map V.int ++ [V.int i] = (S.items ++ [i]).map V.int := by rw [List.map_append]; rfl
  rw [e]
  have g3 := same_new nL (o := .lst ((S.items ++ [i]).map V.int))
  have f3 : upd H L (.lst ((S.items ++ [i]).map V.int)) L = some (.lst ((S.items ++ [i]).map V.int)) := upd_same
  generalize upd H L (.lst ((S.items ++ [i]).map V.int)) = H3 at g3 f3 ⊢
  refine ⟨_, rfl, t, _, 4, .ref fa, rfl, rfl, .inl (.inl (g3 _ _ ht)), atI_nat (j := 4) rfl, .ref t, S, L, fa, S.items ++ [i], rs, S.facts, rfl, stoAt_same g3 A0, SqL.of f3, SqL.of (g3 _ _ hfa), tp.keep (tk_same g3), fun v' H' s5 n => ?_⟩
  rw [sortF_id D.rise] at n
  exact q1 _ (by simp only [step, if_neg ni]) v' H' (g3.trans s5) (n.up g3)
def spDrop (C : Addr) : Sp := fun vs H Q E => ∃ (v w : V) (m : Nat) (S : Store) (i : Int), vs = [v, w] ∧ StepAsks (.drop i) C v w m S H Q E
theorem in_nums (i : Int) (x : Fact) : inV (.int i) (x.nums.map V.int) = decide (i ∈ x.nums) := inV_int i x.nums
theorem ok_drop {f f2 f3 C : Addr} {fd d2 d3 : FuncData} (F : Fun K "drop_item" "drop_item" sDrop f fd)
    (G2 : FnOk P w K mg base CX0 4 f2 d2 ["store", "value"] (spIsItem K)) (b2 : Binds K d2 ["store", "value"] []) (k2 : PySem.W.keepIn K (.ref f2) = true) (m2 : mg "is_item" = some (.ref f2))
    (G3 : FnOk P w K mg base CX0 1 f3 d3 ["store", "items", "facts"] (spRemade K)) (b3 : Binds K d3 ["store", "items", "facts"] []) (k3 : PySem.W.keepIn K (.ref f3) = true) (m3 : mg "remade" = some (.ref f3))
    (mAny : mg "any" = none) (U : ErrUse P w K mg base "InvalidItem" C) : FnOk P w K mg base (L2.CX P w) 5 f fd ["store", "item"] (spDrop C) := by
  obtain ⟨fI, fdI, ds, iC, tI, oI, bI, _, _, _⟩ := U.ok
  refine F.okX scDrop (fun vs H Q E h => ?_) (fun cdv A outer s H vs Q E hr h => ?_)
  · obtain ⟨_, _, _, _, _, rfl, _⟩ := h
    rfl
  obtain ⟨v, wv, m, S, i, rfl, A0, D, hm, rfl, bd, q1, q2⟩ := h
  have bd : 0 ≤ i ∧ i ≤ 1000000000 := bd
  have nd := scDrop.nd
  refine ⟨_, pss_cons (ps_if (PW.pt (pw_or (pt_not (pt_val (pe_call G2 (hr.mono (by decide)) rfl m2 k2 b2 .nil pass0 (pa_cons (pv 0) (pa_cons (pv 1) pa_nil))))) (pw_or1 (pt_val (pe_callB (cr_any rfl) (by rfl) mAny (by decide +kernel) (pa_cons (pe_lc (own := [("fact", 2)]) (g := gName 2) (tt := tYes) rfl nd (pi_list (pe_ix (r := rIxT K) ix_tup (pv 0) pe_int (fun _ _ => rfl))) (blkOk_by (own := [("fact", 2)]) (N := NDr) (sc := defScope sDrop) (by decide +kernel)) (fun _ _ _ _ _ => pg_name (i := 2) nd rfl (Or.inl rfl)) (fun _ _ _ _ _ => pts_nil)
        (fun _ _ _ _ _ => pe_cmpR (r := rIn K false) op_in_seq (pv 1) (pe_slice (r := rSlT K) sl_tup (pv 2) (po_some pe_int) po_none) (by rfl))) pa_nil))))))
      (pss_one (ps_raise rfl (takes_of rfl rfl rfl rfl) (pmk_oex U.T iC tI oI (hr.mono (by decide)) bI .nil pass0 (by rfl) U.g (pa_cons (pv 1) pa_nil)))) pss_nil)
    (pss_one (ps_ret (pe_call G3 (hr.mono (by decide)) rfl m3 k3 b3 .nil pass0 (pa_cons (pv 0) (pa_cons (pe_lc (own := [("other", 3)]) (g := gName 3) rfl nd (pi_list (pe_ix (r := rIxT K) ix_tup (pv 0) pe_int (fun _ _ => rfl))) (blkOk_by (own := [("other", 3)]) (N := NDr) (sc := defScope sDrop) (by decide +kernel)) (fun _ _ _ _ _ => pg_name (i := 3) nd rfl (Or.inl rfl))
        (fun _ _ _ _ _ => pts_one (pt_cmpR op_ne (pv 3) (pv 1) (nomark _))) (fun _ _ _ _ _ => pv 3)) (pa_cons (pe_ix (r := rIxT K) ix_tup (pv 0) pe_int (fun _ _ => rfl)) pa_nil)))))), ?_⟩
  obtain ⟨t, ma, ca, ia, fa, rs, rfl, ht, hma, hca, hia, hfa, tp⟩ := id A0
  have fewI := D.few
  have short := D.short
  have lenR : rs.length = S.facts.length := by rw [tp.length, List.length_map]
  refine ⟨_, rfl, _, rfl, t, ia, _, _, _, _, S.items, .int i, .int i, rfl, .inl (.inl ht), SqL.of hia, .int i, ?_⟩
  rw [okItem_num bd]
  refine ⟨_, rfl, ite2 (fun c1 => ?_) fun c1 => ?_⟩
  · have c1 : i ∉ S.items := by simpa using c1
    exact ⟨_, rfl, (show 1 ≤ 1000 by decide), throw_read U.T U.noV (q2 (by simp [step, c1]) H (fun _ _ h => h))⟩
  have ini : i ∈ S.items := by simpa using c1
  have go : ∀ {b : Bool} {H1 : Hp}, Same H H1 → b = hasI S.facts i → ∀ {T1 T2 : Prop}, (hasI S.facts i = true → T1) → (hasI S.facts i = false → T2) → if b = true then T1 else T2 := fun _ e _ _ t1 t2 => by
    subst e
    exact ite2 (fun c => t1 c) fun c => t2 (by simpa using c)
  refine ⟨_, rfl, t, _, 4, .ref fa, rfl, rfl, .inl (.inl ht), atI_nat (j := 4) rfl, fa, rfl, ⟨_, SqL.of hfa⟩, fun D1 nD1 => lc_bools (walk_list (K := K) (a := fa) (xs := rs)) (S.facts.map fun x => decide (i ∈ x.nums)) (by rw [List.length_map, lenR]) (Nat.lt_of_le_of_lt (show rs.length ≤ 1000 by omega) (by decide)) nD1 (fun H' s' => SqL.of (s' _ _ hfa))
    (fun j H' v H'' y => by rw [y.1]; exact fun _ _ h => h) (fun j v H' H'' b hj hb s' y R hR => ?_) (fun H1 s1 e1 => ?_) (fun _ _ _ _ _ m h => m _ _ h)⟩
  · obtain ⟨rfl, hv⟩ := y
    obtain ⟨a, tt, rfl, ha, k⟩ := Tups.get tp hv
    rw [List.getElem?_map] at k hb
    obtain ⟨y, hy, rfl⟩ := Option.map_eq_some_iff.mp k
    rw [hy] at hb
    injection hb with hb
    subst hb
    have ha' := s' _ _ ha
    refine ⟨rfl, _, rfl, _, rfl, _, rfl, a, _, rfl, .inl (.inl ha'), fun z => ?_, fun p np => ?_⟩
    · have z := z.1
      rw [show (some (2 : Int)) = some ((2 : Nat) : Int) from rfl, HT.sIx_nat] at z
      have := fact_len y
      omega
    rw [(fact_cut y).2]
    have mp := same_new np (o := .tup (y.nums.map V.int))
    have ep : upd H'' p (.tup (y.nums.map V.int)) p = some (.tup (y.nums.map V.int)) := upd_same
    generalize upd H'' p (.tup (y.nums.map V.int)) = H2 at mp ep ⊢
    refine ⟨p, _, rfl, .inr (.inl (.inl ep)), rfl, flat_intsV _, ?_⟩
    show R (.bl (inV (.int i) (y.nums.map V.int))) H2
    rw [in_nums]
    exact hR _ mp
  refine ⟨D1, _, rfl, SqL.of e1, _, rfl, go s1 (by rw [List.any_map]; rfl) (fun c => ?_) fun c => ?_⟩
  · exact ⟨_, rfl, (show 1 ≤ 1000 by decide), throw_read U.T U.noV (q2 (by simp [step, c]) H1 s1)⟩
  refine ⟨_, rfl, _, rfl, t, _, 3, .ref ia, rfl, rfl, .inl (.inl (s1 _ _ ht)), atI_nat (j := 3) rfl, ia, rfl, ⟨_, SqL.of (s1 _ _ hia)⟩, fun L nL => ?_⟩
  refine lc_opts (walk_list (K := K) (a := ia) (xs := S.items.map V.int)) (S.items.map fun j => if decide (j ≠ i) = true then some (V.int j) else none) (by rw [List.length_map, List.length_map]) (Nat.lt_of_le_of_lt (show (S.items.map V.int).length ≤ 1000 by rw [List.length_map]; omega) (by decide)) nL (fun H' s' => SqL.of (s' _ _ (s1 _ _ hia)))
    (fun i H' v H'' y => by rw [y.1]; exact fun _ _ h => h) (fun j v H' H'' o hj ho s' y R N hR hN => ?_) fun H3 s3 e3 => ?_
  · obtain ⟨rfl, hv⟩ := y
    rw [List.getElem?_map] at hv ho
    obtain ⟨z, hz, rfl⟩ := Option.map_eq_some_iff.mp hv
    rw [hz] at ho
    injection ho with ho
    subst ho
    refine ⟨rfl, _, rfl, _, rfl, rfl, _, rfl, ?_⟩
    have e : (!decide (V.int z = V.int i)) = decide (z ≠ i) := by simp
    rw [e]
    refine ite2 (fun c => ?_) fun c => ?_
    · exact ⟨_, rfl, hR _ H'' (by simp only [if_pos c]) (fun _ _ h => h)⟩
    · exact hN (by simp only [if_neg c]) H'' (fun _ _ h => h)
  have s03 : Same H H3 := s1.trans s3
  have ek : ∀ ns : List Int, (ns.map fun j => if decide (j ≠ i) = true then some (V.int j) else none).filterMap id = (ns.filter fun j => decide (j ≠ i)).map V.int := fun ns => by
    induction ns with
    | nil => rfl
    | cons n r ih =>
      rw [List.map_cons, List.filterMap_cons, List.filter_cons]
      cases q : decide (n ≠ i) with
      | true => simp only [if_true, id, List.map_cons, ih]
      | false => simpa using ih
  rw [ek] at e3
  refine ⟨_, rfl, t, _, 4, .ref fa, rfl, rfl, .inl (.inl (s03 _ _ ht)), atI_nat (j := 4) rfl, .ref t, S, L, fa, S.items.filter fun j => decide (j ≠ i), rs, S.facts, rfl, stoAt_same s03 A0, SqL.of e3, SqL.of (s03 _ _ hfa), tp.keep (tk_same s03), fun v' H' s5 n => ?_⟩
  rw [sortF_id D.rise, sortI_id (D.items.1.sublist List.filter_sublist)] at n
  exact q1 _ (by simp [step, ini, c]) v' H' (s03.trans s5) (n.up s03)
end
end DQ

set_option Elab.async false
set_option linter.all false
set_option maxRecDepth 100000
set_option maxHeartbeats 1000000
namespace DQ
open PySem PySem.Spec PyProof.Rows L2
section
variable {P : Program} {w : World} {K : PySem.W.Frag} {mg : Str → Option Value} {base : Heap}
/-- an item more, whatever is handed in -/
def spAddG (K : PySem.W.Frag) (C C' : Addr) : Sp := fun vs H Q E => ∃ (v w : V) (m : Nat) (S : Store) (d : PyData), vs = [v, w] ∧ StoAt H v S ∧ Drawn m S ∧ m ≤ 2000 ∧ Dp K H w d ∧ ((numD d = false ∨ okItem S.items d = true) → ∀ H', Same H H' → Throws E C w H') ∧
  ∀ i, w = .int i → d = .int i → numD d = true → i ∉ S.items → (2000 ≤ S.items.length → ∀ H', Same H H' → Throws E C' (.int ((S.items.length + 1 : Nat) : Int)) H') ∧ (S.items.length < 2000 → ∀ v' H', Same H H' → NewSto H H' v' { S with items := sortI (S.items ++ [i]) } → Q v' H')
theorem ok_addG {f f1 f2 f3 C C' : Addr} {fd d1 d2 d3 : FuncData} {t1 : Tok} (F : Fun K "add_item" "add_item" sAdd f fd)
    (G1 : FnOk P w K mg base CX0 3 f1 d1 ["value"] (spNumber K)) (b1 : Binds K d1 ["value"] []) (k1 : PySem.W.keepIn K (.ref f1) = true) (m1 : mg "is_number" = some (.ref f1))
    (G2 : FnOk P w K mg base CX0 4 f2 d2 ["store", "value"] (spIsItem K)) (b2 : Binds K d2 ["store", "value"] []) (k2 : PySem.W.keepIn K (.ref f2) = true) (m2 : mg "is_item" = some (.ref f2))
    (G3 : FnOk P w K mg base CX0 1 f3 d3 ["store", "items", "facts"] (spRemade K)) (b3 : Binds K d3 ["store", "items", "facts"] []) (k3 : PySem.W.keepIn K (.ref f3) = true) (m3 : mg "remade" = some (.ref f3))
    (mLen : mg "len" = none) (mM : mg "MOST_ITEMS" = some (.int 2000 t1))
    (U : ErrUse P w K mg base "InvalidItem" C) (U' : ErrUse P w K mg base "TooMany" C') : FnOk P w K mg base (L2.CX P w) 5 f fd ["store", "item"] (spAddG K C C') := by
  obtain ⟨fI, fdI, ds, iC, tI, oI, bI, _, _, _⟩ := U.ok
  obtain ⟨fI', fdI', ds', iC', tI', oI', bI', _, _, _⟩ := U'.ok
  refine F.okX scAdd (fun vs H Q E h => ?_) (fun cdv A outer s H vs Q E hr h => ?_)
  · obtain ⟨_, _, _, _, _, rfl, _⟩ := h
    rfl
  obtain ⟨v, wv, m, S, d, rfl, A0, D, hm, hd, bad, good⟩ := h
  have nd := scAdd.nd
  refine ⟨_, pss_cons (ps_if (PW.pt (pw_or (pt_not (pt_val (pe_call G1 (hr.mono (by decide)) rfl m1 k1 b1 .nil pass0 (pa_cons (pv 1) pa_nil)))) (pw_or1 (pt_val (pe_call G2 (hr.mono (by decide)) rfl m2 k2 b2 .nil pass0 (pa_cons (pv 0) (pa_cons (pv 1) pa_nil)))))))
      (pss_one (ps_raise rfl (takes_of rfl rfl rfl rfl) (pmk_oex U.T iC tI oI (hr.mono (by decide)) bI .nil pass0 (by rfl) U.g (pa_cons (pv 1) pa_nil)))) pss_nil)
    (pss_cons (ps_set (i := 2) nd rfl (.inl rfl) (pe_op op_add (pe_callB call_len_seq (by rfl) mLen PySem.boot_len (pa_cons (pe_ix (r := rIxT K) ix_tup (pv 0) pe_int (fun _ _ => rfl)) pa_nil)) pe_int))
    (pss_cons (ps_if (pt_cmpR op_gt (pv 2) (pe_glob (v := .int 2000) (by rfl) mM ⟨_, rfl⟩) (nomark _))
      (pss_one (ps_raise rfl (takes_of rfl rfl rfl rfl) (pmk_oex U'.T iC' tI' oI' (hr.mono (by decide)) bI' .nil pass0 (by rfl) U'.g (pa_cons (pv 2) pa_nil)))) pss_nil)
    (pss_one (ps_ret (pe_call G3 (hr.mono (by decide)) rfl m3 k3 b3 .nil pass0 (pa_cons (pv 0) (pa_cons (pe_lst (pa_starK (K := K) rfl (pe_ix (r := rIxT K) ix_tup (pv 0) pe_int (fun _ _ => rfl)) (pa_cons (pv 1) pa_nil))) (pa_cons (pe_ix (r := rIxT K) ix_tup (pv 0) pe_int (fun _ _ => rfl)) pa_nil)))))))), ?_⟩
  obtain ⟨t, ma, ca, ia, fa, rs, rfl, ht, hma, hca, hia, hfa, tp⟩ := id A0
  have fewI := D.few
  refine ⟨_, rfl, wv, d, rfl, hd, _, rfl, ite2 (fun c => ?_) fun c => ?_⟩
  · have c : numD d = false := by simpa using c
    exact ⟨_, rfl, (show 1 ≤ 1000 by decide), throw_read U.T U.noV (bad (.inl c) H (fun _ _ h => h))⟩
  have c : numD d = true := by simpa using c
  refine ⟨_, rfl, _, rfl, t, ia, _, _, _, _, S.items, wv, d, rfl, .inl (.inl ht), SqL.of hia, hd, ?_⟩
  refine ⟨_, rfl, ite2 (fun c1 => ?_) fun c1 => ?_⟩
  · exact ⟨_, rfl, (show 1 ≤ 1000 by decide), throw_read U.T U.noV (bad (.inr c1) H (fun _ _ h => h))⟩
  cases hd with
  | int i =>
    have ni : i ∉ S.items := fun h => c1 (by
      show (numD (.int i) && decide (i ∈ S.items)) = true
      rw [c, decide_eq_true h]
      rfl)
    obtain ⟨many, go⟩ := good i rfl rfl c ni
    refine ⟨_, rfl, t, _, 3, .ref ia, rfl, rfl, .inl (.inl ht), atI_nat (j := 3) rfl, ia, _, rfl, .inl (SqL.of hia), _, _, rfl, rfl, ?_⟩
    rw [List.length_map]
    refine ⟨_, rfl, _, _, rfl, rfl, _, rfl, ite2 (fun c => ?_) fun c2 => ?_⟩
    · have c := of_decide_eq_true c
      exact ⟨_, rfl, (show 1 ≤ 1000 by decide), throw_read U'.T U'.noV (many (by omega) H (fun _ _ h => h))⟩
    have c2 : ¬ ((2000 : Int) < ((S.items.length : Nat) : Int) + 1) := fun h => c2 (decide_eq_true h)
    refine ⟨_, rfl, _, rfl, t, _, 3, .ref ia, rfl, rfl, .inl (.inl ht), atI_nat (j := 3) rfl, ia, _, rfl, .inr (SqL.of hia), _, rfl, Nat.le_trans (show (S.items.map V.int ++ [V.int i]).length ≤ 3000 by rw [List.length_append, List.length_singleton, List.length_map]; omega) (by decide), fun L nL => ?_⟩
    have e : S.items.map V.int ++ [V.int i] = (S.items ++ [i]).map V.int := by rw [List.map_append]; rfl
    rw [e]
    have g3 := same_new nL (o := .lst ((S.items ++ [i]).map V.int))
    have f3 : upd H L (.lst ((S.items ++ [i]).map V.int)) L = some (.lst ((S.items ++ [i]).map V.int)) := upd_same
    generalize upd H L (.lst ((S.items ++ [i]).map V.int)) = H3 at g3 f3 ⊢
    refine ⟨_, rfl, t, _, 4, .ref fa, rfl, rfl, .inl (.inl (g3 _ _ ht)), atI_nat (j := 4) rfl, .ref t, S, L, fa, S.items ++ [i], rs, S.facts, rfl, stoAt_same g3 A0, SqL.of f3, SqL.of (g3 _ _ hfa), tp.keep (tk_same g3), fun v' H' s5 n => ?_⟩
    rw [sortF_id D.rise] at n
    exact go (by omega) v' H' (g3.trans s5) (n.up g3)
  | _ => exact absurd c (by simp [numD])
/-- an item less, whatever is handed in -/
def spDropG (K : PySem.W.Frag) (C : Addr) : Sp := fun vs H Q E => ∃ (v w : V) (m : Nat) (S : Store) (d : PyData), vs = [v, w] ∧ StoAt H v S ∧ Drawn m S ∧ m ≤ 2000 ∧ Dp K H w d ∧ (okItem S.items d = false → ∀ H', Same H H' → Throws E C w H') ∧
  ∀ i, w = .int i → d = .int i → i ∈ S.items → (hasI S.facts i = true → ∀ H', Same H H' → Throws E C w H') ∧ (hasI S.facts i = false → ∀ v' H', Same H H' → NewSto H H' v' { S with items := S.items.filter fun j => decide (j ≠ i) } → Q v' H')
theorem ok_dropG {f f2 f3 C : Addr} {fd d2 d3 : FuncData} (F : Fun K "drop_item" "drop_item" sDrop f fd)
    (G2 : FnOk P w K mg base CX0 4 f2 d2 ["store", "value"] (spIsItem K)) (b2 : Binds K d2 ["store", "value"] []) (k2 : PySem.W.keepIn K (.ref f2) = true) (m2 : mg "is_item" = some (.ref f2))
    (G3 : FnOk P w K mg base CX0 1 f3 d3 ["store", "items", "facts"] (spRemade K)) (b3 : Binds K d3 ["store", "items", "facts"] []) (k3 : PySem.W.keepIn K (.ref f3) = true) (m3 : mg "remade" = some (.ref f3))
    (mAny : mg "any" = none) (U : ErrUse P w K mg base "InvalidItem" C) : FnOk P w K mg base (L2.CX P w) 5 f fd ["store", "item"] (spDropG K C) := by
  obtain ⟨fI, fdI, ds, iC, tI, oI, bI, _, _, _⟩ := U.ok
  refine F.okX scDrop (fun vs H Q E h => ?_) (fun cdv A outer s H vs Q E hr h => ?_)
  · obtain ⟨_, _, _, _, _, rfl, _⟩ := h
    rfl
  obtain ⟨v, wv, m, S, d, rfl, A0, D, hm, hd, bad, good⟩ := h
  have nd := scDrop.nd
  refine ⟨_, pss_cons (ps_if (PW.pt (pw_or (pt_not (pt_val (pe_call G2 (hr.mono (by decide)) rfl m2 k2 b2 .nil pass0 (pa_cons (pv 0) (pa_cons (pv 1) pa_nil))))) (pw_or1 (pt_val (pe_callB (cr_any rfl) (by rfl) mAny (by decide +kernel) (pa_cons (pe_lc (own := [("fact", 2)]) (g := gName 2) (tt := tYes) rfl nd (pi_list (pe_ix (r := rIxT K) ix_tup (pv 0) pe_int (fun _ _ => rfl))) (blkOk_by (own := [("fact", 2)]) (N := NDr) (sc := defScope sDrop) (by decide +kernel)) (fun _ _ _ _ _ => pg_name (i := 2) nd rfl (Or.inl rfl)) (fun _ _ _ _ _ => pts_nil)
        (fun _ _ _ _ _ => pe_cmpR (r := rIn K false) op_in_seq (pv 1) (pe_slice (r := rSlT K) sl_tup (pv 2) (po_some pe_int) po_none) (by rfl))) pa_nil))))))
      (pss_one (ps_raise rfl (takes_of rfl rfl rfl rfl) (pmk_oex U.T iC tI oI (hr.mono (by decide)) bI .nil pass0 (by rfl) U.g (pa_cons (pv 1) pa_nil)))) pss_nil)
    (pss_one (ps_ret (pe_call G3 (hr.mono (by decide)) rfl m3 k3 b3 .nil pass0 (pa_cons (pv 0) (pa_cons (pe_lc (own := [("other", 3)]) (g := gName 3) rfl nd (pi_list (pe_ix (r := rIxT K) ix_tup (pv 0) pe_int (fun _ _ => rfl))) (blkOk_by (own := [("other", 3)]) (N := NDr) (sc := defScope sDrop) (by decide +kernel)) (fun _ _ _ _ _ => pg_name (i := 3) nd rfl (Or.inl rfl))
        (fun _ _ _ _ _ => pts_one (pt_cmpR op_ne (pv 3) (pv 1) (nomark _))) (fun _ _ _ _ _ => pv 3)) (pa_cons (pe_ix (r := rIxT K) ix_tup (pv 0) pe_int (fun _ _ => rfl)) pa_nil)))))), ?_⟩
  obtain ⟨t, ma, ca, ia, fa, rs, rfl, ht, hma, hca, hia, hfa, tp⟩ := id A0
  have fewI := D.few
  have short := D.short
  have lenR : rs.length = S.facts.length := by rw [tp.length, List.length_map]
  refine ⟨_, rfl, _, rfl, t, ia, _, _, _, _, S.items, wv, d, rfl, .inl (.inl ht), SqL.of hia, hd, ?_⟩
  refine ⟨_, rfl, ite2 (fun c1 => ?_) fun c1 => ?_⟩
  · exact ⟨_, rfl, (show 1 ≤ 1000 by decide), throw_read U.T U.noV (bad (by simpa using c1) H (fun _ _ h => h))⟩
  have c1 : okItem S.items d = true := by simpa using c1
  obtain ⟨i, ini, rfl⟩ := okItem_int c1
  cases hd with
  | int _ =>
  obtain ⟨no, go⟩ := good i rfl rfl ini
  have cut : ∀ {b : Bool} {H1 : Hp}, Same H H1 → b = hasI S.facts i → ∀ {T1 T2 : Prop}, (hasI S.facts i = true → T1) → (hasI S.facts i = false → T2) → if b = true then T1 else T2 := fun _ e _ _ t1 t2 => by
    subst e
    exact ite2 (fun c => t1 c) fun c => t2 (by simpa using c)
  refine ⟨_, rfl, t, _, 4, .ref fa, rfl, rfl, .inl (.inl ht), atI_nat (j := 4) rfl, fa, rfl, ⟨_, SqL.of hfa⟩, fun D1 nD1 => lc_bools (walk_list (K := K) (a := fa) (xs := rs)) (S.facts.map fun x => decide (i ∈ x.nums)) (by rw [List.length_map, lenR]) (Nat.lt_of_le_of_lt (show rs.length ≤ 1000 by omega) (by decide)) nD1 (fun H' s' => SqL.of (s' _ _ hfa))
    (fun j H' v H'' y => by rw [y.1]; exact fun _ _ h => h) (fun j v H' H'' b hj hb s' y R hR => ?_) (fun H1 s1 e1 => ?_) (fun _ _ _ _ _ m h => m _ _ h)⟩
  · obtain ⟨rfl, hv⟩ := y
    obtain ⟨a, tt, rfl, ha, k⟩ := Tups.get tp hv
    rw [List.getElem?_map] at k hb
    obtain ⟨y, hy, rfl⟩ := Option.map_eq_some_iff.mp k
    rw [hy] at hb
    injection hb with hb
    subst hb
    have ha' := s' _ _ ha
    refine ⟨rfl, _, rfl, _, rfl, _, rfl, a, _, rfl, .inl (.inl ha'), fun z => ?_, fun p np => ?_⟩
    · have z := z.1
      rw [show (some (2 : Int)) = some ((2 : Nat) : Int) from rfl, HT.sIx_nat] at z
      have := fact_len y
      omega
    rw [(fact_cut y).2]
    have mp := same_new np (o := .tup (y.nums.map V.int))
    have ep : upd H'' p (.tup (y.nums.map V.int)) p = some (.tup (y.nums.map V.int)) := upd_same
    generalize upd H'' p (.tup (y.nums.map V.int)) = H2 at mp ep ⊢
    refine ⟨p, _, rfl, .inr (.inl (.inl ep)), rfl, flat_intsV _, ?_⟩
    show R (.bl (inV (.int i) (y.nums.map V.int))) H2
    rw [in_nums]
    exact hR _ mp
  refine ⟨D1, _, rfl, SqL.of e1, _, rfl, cut s1 (by rw [List.any_map]; rfl) (fun c => ?_) fun c => ?_⟩
  · exact ⟨_, rfl, (show 1 ≤ 1000 by decide), throw_read U.T U.noV (no c H1 s1)⟩
  refine ⟨_, rfl, _, rfl, t, _, 3, .ref ia, rfl, rfl, .inl (.inl (s1 _ _ ht)), atI_nat (j := 3) rfl, ia, rfl, ⟨_, SqL.of (s1 _ _ hia)⟩, fun L nL => ?_⟩
  refine lc_opts (walk_list (K := K) (a := ia) (xs := S.items.map V.int)) (S.items.map fun j => if decide (j ≠ i) = true then some (V.int j) else none) (by rw [List.length_map, List.length_map]) (Nat.lt_of_le_of_lt (show (S.items.map V.int).length ≤ 2000 by rw [List.length_map]; omega) (by decide)) nL (fun H' s' => SqL.of (s' _ _ (s1 _ _ hia)))
    (fun i H' v H'' y => by rw [y.1]; exact fun _ _ h => h) (fun j v H' H'' o hj ho s' y R N hR hN => ?_) fun H3 s3 e3 => ?_
  · obtain ⟨rfl, hv⟩ := y
    rw [List.getElem?_map] at hv ho
    obtain ⟨z, hz, rfl⟩ := Option.map_eq_some_iff.mp hv
    rw [hz] at ho
    injection ho with ho
    subst ho
    refine ⟨rfl, _, rfl, _, rfl, rfl, _, rfl, ?_⟩
    have e : (!decide (V.int z = V.int i)) = decide (z ≠ i) := by simp
    rw [e]
    refine ite2 (fun c => ?_) fun c => ?_
    · exact ⟨_, rfl, hR _ H'' (by simp only [if_pos c]) (fun _ _ h => h)⟩
    · exact hN (by simp only [if_neg c]) H'' (fun _ _ h => h)
  have s03 : Same H H3 := s1.trans s3
  have ek : ∀ ns : List Int, (ns.map fun j => if decide (j ≠ i) = true then some (V.int j) else none).filterMap id = (ns.filter fun j => decide (j ≠ i)).map V.int := fun ns => by
    induction ns with
    | nil => rfl
    | cons n r ih =>
      rw [List.map_cons, List.filterMap_cons, List.filter_cons]
      cases q : decide (n ≠ i) with
      | true => simp only [if_true, id, List.map_cons, ih]
      | false => simpa using ih
  rw [ek] at e3
  refine ⟨_, rfl, t, _, 4, .ref fa, rfl, rfl, .inl (.inl (s03 _ _ ht)), atI_nat (j := 4) rfl, .ref t, S, L, fa, S.items.filter fun j => decide (j ≠ i), rs, S.facts, rfl, stoAt_same s03 A0, SqL.of e3, SqL.of (s03 _ _ hfa), tp.keep (tk_same s03), fun v' H' s5 n => ?_⟩
  rw [sortF_id D.rise, sortI_id (D.items.1.sublist List.filter_sublist)] at n
  exact go c v' H' (s03.trans s5) (n.up s03)
end
end DQ

set_option Elab.async false
set_option linter.all false
set_option maxRecDepth 100000
set_option maxHeartbeats 1000000
namespace DQ
open PySem PySem.Spec PyProof.Rows L2
section
variable {P : Program} {w : World} {K : PySem.W.Frag} {mg : Str → Option Value} {base : Heap}
theorem StepAsks.same {e : Edit} {C : Addr} {v wv : V} {m : Nat} {S : Store} {H H' : Hp} {Q : VK} {E : XK} (s : Same H H') (h : StepAsks e C v wv m S H Q E) : StepAsks e C v wv m S H' Q E := by
  obtain ⟨A0, D, hm, hw, ok, q1, q2⟩ := h
  exact ⟨stoAt_same s A0, D, hm, hw.same s, ok, fun S' e v' H1 s1 n => q1 S' e v' H1 (s.trans s1) (n.up s), fun e H1 s1 => q2 e H1 (s.trans s1)⟩
abbrev sWF : Stmt := topS 40
theorem scWF : FnScope ["store", "fact"] ["store", "fact"] (defScope sWF) := ⟨rfl, rfl, rfl, by decide +kernel, rfl, by decide +kernel, by decide +kernel⟩
theorem ok_WF {f fc f1 C0 C : Addr} {fd dc d1 : FuncData} (F : Fun K "with_fact" "with_fact" sWF f fd)
    (GC : FnOk P w K mg base (L2.CX P w) 7 fc dc ["store"] (spCheck K C0)) (bC : Binds K dc ["store"] []) (kC : PySem.W.keepIn K (.ref fc) = true) (mC : mg "check_store" = some (.ref fc))
    (G1 : FnOk P w K mg base (L2.CX P w) 5 f1 d1 ["store", "fact"] (spPut C)) (b1 : Binds K d1 ["store", "fact"] []) (k1 : PySem.W.keepIn K (.ref f1) = true) (m1 : mg "put_fact" = some (.ref f1)) : FnOk P w K mg base (L2.CX P w) 8 f fd ["store", "fact"] (spPut C) := by
  refine F.okX scWF (fun vs H Q E h => ?_) (fun cdv A outer s H vs Q E hr h => ?_)
  · obtain ⟨_, _, _, _, _, rfl, _⟩ := h
    rfl
  obtain ⟨v, wv, m, S, x, rfl, h⟩ := h
  refine ⟨_, pss_cons (ps_expr (pe_callS GC hr rfl mC kC bC (fun σ => passAt (takes_of rfl rfl rfl rfl) σ) (pa_cons (pv 0) pa_nil)))
    (pss_one (ps_ret (pe_callS G1 (hr.mono (by decide)) rfl m1 k1 b1 (fun σ => passAt (takes_of rfl rfl rfl rfl) σ) (pa_cons (pv 0) (pa_cons (pv 1) pa_nil))))), ?_⟩
  refine ⟨_, rfl, v, true, rfl, store_asks (by have := h.2.2.1; omega) h.2.1 h.1 fun H1 sm => ⟨rfl, fun _ => ?_, (fun e => nomatch e)⟩⟩
  exact ⟨_, rfl, _, rfl, v, wv, m, S, x, rfl, h.same sm⟩
abbrev sOF : Stmt := topS 41
theorem scOF : FnScope ["store", "fact"] ["store", "fact"] (defScope sOF) := ⟨rfl, rfl, rfl, by decide +kernel, rfl, by decide +kernel, by decide +kernel⟩
theorem ok_OF {f fc f1 C0 C : Addr} {fd dc d1 : FuncData} (F : Fun K "without_fact" "without_fact" sOF f fd)
    (GC : FnOk P w K mg base (L2.CX P w) 7 fc dc ["store"] (spCheck K C0)) (bC : Binds K dc ["store"] []) (kC : PySem.W.keepIn K (.ref fc) = true) (mC : mg "check_store" = some (.ref fc))
    (G1 : FnOk P w K mg base (L2.CX P w) 5 f1 d1 ["store", "fact"] (spTake C)) (b1 : Binds K d1 ["store", "fact"] []) (k1 : PySem.W.keepIn K (.ref f1) = true) (m1 : mg "take_fact" = some (.ref f1)) : FnOk P w K mg base (L2.CX P w) 8 f fd ["store", "fact"] (spTake C) := by
  refine F.okX scOF (fun vs H Q E h => ?_) (fun cdv A outer s H vs Q E hr h => ?_)
  · obtain ⟨_, _, _, _, _, rfl, _⟩ := h
    rfl
  obtain ⟨v, wv, m, S, x, rfl, h⟩ := h
  refine ⟨_, pss_cons (ps_expr (pe_callS GC hr rfl mC kC bC (fun σ => passAt (takes_of rfl rfl rfl rfl) σ) (pa_cons (pv 0) pa_nil)))
    (pss_one (ps_ret (pe_callS G1 (hr.mono (by decide)) rfl m1 k1 b1 (fun σ => passAt (takes_of rfl rfl rfl rfl) σ) (pa_cons (pv 0) (pa_cons (pv 1) pa_nil))))), ?_⟩
  refine ⟨_, rfl, v, true, rfl, store_asks (by have := h.2.2.1; omega) h.2.1 h.1 fun H1 sm => ⟨rfl, fun _ => ?_, (fun e => nomatch e)⟩⟩
  exact ⟨_, rfl, _, rfl, v, wv, m, S, x, rfl, h.same sm⟩
abbrev sWI : Stmt := topS 42
theorem scWI : FnScope ["store", "item"] ["store", "item"] (defScope sWI) := ⟨rfl, rfl, rfl, by decide +kernel, rfl, by decide +kernel, by decide +kernel⟩
theorem ok_WI {f fc f1 C0 C : Addr} {fd dc d1 : FuncData} (F : Fun K "with_item" "with_item" sWI f fd)
    (GC : FnOk P w K mg base (L2.CX P w) 7 fc dc ["store"] (spCheck K C0)) (bC : Binds K dc ["store"] []) (kC : PySem.W.keepIn K (.ref fc) = true) (mC : mg "check_store" = some (.ref fc))
    (G1 : FnOk P w K mg base (L2.CX P w) 5 f1 d1 ["store", "item"] (spAdd C)) (b1 : Binds K d1 ["store", "item"] []) (k1 : PySem.W.keepIn K (.ref f1) = true) (m1 : mg "add_item" = some (.ref f1)) : FnOk P w K mg base (L2.CX P w) 8 f fd ["store", "item"] (spAdd C) := by
  refine F.okX scWI (fun vs H Q E h => ?_) (fun cdv A outer s H vs Q E hr h => ?_)
  · obtain ⟨_, _, _, _, _, rfl, _⟩ := h
    rfl
  obtain ⟨v, wv, m, S, x, rfl, h⟩ := h
  refine ⟨_, pss_cons (ps_expr (pe_callS GC hr rfl mC kC bC (fun σ => passAt (takes_of rfl rfl rfl rfl) σ) (pa_cons (pv 0) pa_nil)))
    (pss_one (ps_ret (pe_callS G1 (hr.mono (by decide)) rfl m1 k1 b1 (fun σ => passAt (takes_of rfl rfl rfl rfl) σ) (pa_cons (pv 0) (pa_cons (pv 1) pa_nil))))), ?_⟩
  refine ⟨_, rfl, v, true, rfl, store_asks (by have := h.2.2.1; omega) h.2.1 h.1 fun H1 sm => ⟨rfl, fun _ => ?_, (fun e => nomatch e)⟩⟩
  exact ⟨_, rfl, _, rfl, v, wv, m, S, x, rfl, h.same sm⟩
abbrev sOI : Stmt := topS 43
theorem scOI : FnScope ["store", "item"] ["store", "item"] (defScope sOI) := ⟨rfl, rfl, rfl, by decide +kernel, rfl, by decide +kernel, by decide +kernel⟩
theorem ok_OI {f fc f1 C0 C : Addr} {fd dc d1 : FuncData} (F : Fun K "without_item" "without_item" sOI f fd)
    (GC : FnOk P w K mg base (L2.CX P w) 7 fc dc ["store"] (spCheck K C0)) (bC : Binds K dc ["store"] []) (kC : PySem.W.keepIn K (.ref fc) = true) (mC : mg "check_store" = some (.ref fc))
    (G1 : FnOk P w K mg base (L2.CX P w) 5 f1 d1 ["store", "item"] (spDrop C)) (b1 : Binds K d1 ["store", "item"] []) (k1 : PySem.W.keepIn K (.ref f1) = true) (m1 : mg "drop_item" = some (.ref f1)) : FnOk P w K mg base (L2.CX P w) 8 f fd ["store", "item"] (spDrop C) := by
  refine F.okX scOI (fun vs H Q E h => ?_) (fun cdv A outer s H vs Q E hr h => ?_)
  · obtain ⟨_, _, _, _, _, rfl, _⟩ := h
    rfl
  obtain ⟨v, wv, m, S, x, rfl, h⟩ := h
  refine ⟨_, pss_cons (ps_expr (pe_callS GC hr rfl mC kC bC (fun σ => passAt (takes_of rfl rfl rfl rfl) σ) (pa_cons (pv 0) pa_nil)))
    (pss_one (ps_ret (pe_callS G1 (hr.mono (by decide)) rfl m1 k1 b1 (fun σ => passAt (takes_of rfl rfl rfl rfl) σ) (pa_cons (pv 0) (pa_cons (pv 1) pa_nil))))), ?_⟩
  refine ⟨_, rfl, v, true, rfl, store_asks (by have := h.2.2.1; omega) h.2.1 h.1 fun H1 sm => ⟨rfl, fun _ => ?_, (fun e => nomatch e)⟩⟩
  exact ⟨_, rfl, _, rfl, v, wv, m, S, x, rfl, h.same sm⟩
end
end DQ

set_option Elab.async false
set_option linter.all false
set_option maxRecDepth 100000
set_option maxHeartbeats 1000000
namespace DQ
open PySem PySem.Spec PyProof.Rows L2
abbrev sIsEdit : Stmt := topS 44
abbrev sMade : Stmt := topS 45
abbrev NMd : List Str := ["store", "edit", "word", "value", "make"]
theorem scIsEdit : FnScope ["value"] ["value"] (defScope sIsEdit) := ⟨rfl, rfl, rfl, by decide +kernel, rfl, by decide +kernel, by decide +kernel⟩
theorem scMade : FnScope NMd ["store", "edit"] (defScope sMade) := ⟨rfl, rfl, rfl, by decide +kernel, rfl, by decide +kernel, by decide +kernel⟩
/-- the written table of the makers -/
structure Makers (K : PySem.W.Frag) (w : World) (d fp ft fa fd : Addr) : Prop where
  ex : ∃ es n, KDict K w d es n
  put : PySem.W.nsIn K d "put" = some (some (.ref fp))
  take : PySem.W.nsIn K d "take" = some (some (.ref ft))
  add : PySem.W.nsIn K d "add" = some (some (.ref fa))
  drop : PySem.W.nsIn K d "drop" = some (some (.ref fd))
def Edit.pick {α : Type} (a b c d : α) : Edit → α
  | .put _ => a
  | .take _ => b
  | .add _ => c
  | .drop _ => d
theorem Makers.at {K : PySem.W.Frag} {w : World} {d fp ft fa fd : Addr} (M : Makers K w d fp ft fa fd) (e : Edit) : PySem.W.nsIn K d e.word = some (some (.ref (e.pick fp ft fa fd))) := by
  cases e
  · exact M.put
  · exact M.take
  · exact M.add
  · exact M.drop
/-- an edit, on the heap -/
def EdAt (H : Hp) (e : Edit) (v : V) : Prop := ∃ a x, v = .ref a ∧ H a = some (.tup [.str e.word, x]) ∧ WhatAt H e x
theorem EdAt.same {H H' : Hp} {e : Edit} {v : V} (s : Same H H') (h : EdAt H e v) : EdAt H' e v := by
  obtain ⟨a, x, e1, e2, e3⟩ := h
  exact ⟨a, x, e1, s _ _ e2, e3.same s⟩
/-- word in MAKERS -/
def rInMk (d : Addr) : R2 := fun x y H Q => ∃ e : Edit, x = .str e.word ∧ y = .ref d ∧ Q (.bl true) H
theorem op_inMk {X : Cx} {K : PySem.W.Frag} {w : World} {d fp ft fa fd : Addr} (hk : X.K = K) (hw : X.w = w) (M : Makers K w d fp ft fa fd) : OpR X (compareOp .In) (rInMk d) := by
  subst hk hw
  obtain ⟨es, n, D⟩ := M.ex
  exact opr_mono (op_in_kd D) fun x y H Q ⟨e, e1, e2, q⟩ => ⟨e.word, _, e1, e2, M.at e, q⟩
/-- the maker that a slot holds, called -/
def tCallM (i : Nat) (S : Addr → Sp → Prop) (E : L2.St → XK) (t : TA) : TE := fun σ H Q => ∃ f sp, S f sp ∧ σ[i]? = some (some (.ref f)) ∧ t σ H fun vs H1 => sp vs H1 Q (E σ)
theorem pe_callM {X : Cx} {CX : CXT} {k i : Nat} {S : Addr → Sp → Prop} {E : L2.St → XK} {x : Str} {p pos : Pos} {e : Expr} {es : List Expr} {t : TA}
    (A : ∀ f sp, S f sp → ∃ fd ps, FnOk X.prog X.w X.K X.mg X.base CX k f fd ps sp ∧ PySem.W.keepIn X.K (.ref f) = true ∧ Binds X.K fd ps [])
    (hr : Room k X.A) (hN : X.N[i]? = some x) (hv : Vis X.env.scope x) (hx : ∀ σ, PassesAt CX X σ (E σ)) (ha : PA X (e :: es) t)
    (n1 : (x == ("__debug__" : Str)) = false := by decide) (n2 : (x == ("__classdict__" : Str)) = false := by decide)
    (st : starEach (e :: es) X.env = (false, eval e X.env) :: starEach es X.env := by rfl) (pl : (backTo pos (starEach es X.env)).any (·.1) = false := by rfl) : PE X (.Call (.Name x p) (e :: es) [] pos) (tCallM i S E t) := by
  constructor
  intro pins s σ H Q I ⟨f, sp, hS, slot, args⟩
  obtain ⟨fd, ps, F, kp, bd⟩ := A f sp hS
  apply wpAny_Call_Name_kw
  apply thn ((pe_var (pos := p) (i := i) hN hv n1 n2).run pins s σ H (fun v G => v = .ref f ∧ G = H) I ⟨.ref f, slot, rfl, rfl⟩)
  rintro u s1 ⟨v, G, I1, r1, ev, eG⟩
  subst ev eG
  cases r1
  refine PySem.W.callWith_K (h₀ := X.base) I.ok.mod.kin kp (thn (ha.run pos pins s1 σ _ _ I1 args) ?_) st pl
  rintro us s2 ⟨vs, G2, I2, r, q⟩
  exact ⟨I2.kIn, run_fnS F hr bd (hx σ) I2 r q⟩
section
variable {P : Program} {w : World} {K : PySem.W.Frag} {mg : Str → Option Value} {base : Heap}
def spIsEdit : Sp := fun vs H Q _ => ∃ (v : V) (e : Edit), vs = [v] ∧ EdAt H e v ∧ Q (.bl true) H
theorem ok_isEdit {f dM fp ft fa fdr : Addr} {fd : FuncData} (F : Fun K "is_edit" "is_edit" sIsEdit f fd) (M : Makers K w dM fp ft fa fdr) (mM : mg "MAKERS" = some (.ref dM))
    (mI : mg "isinstance" = none) (mTuple : mg "tuple" = none) (mLen : mg "len" = none) (mStr : mg "str" = none) : FnOk P w K mg base CX0 1 f fd ["value"] spIsEdit := by
  refine F.ok scIsEdit (fun vs H Q E h => ?_) (fun cdv A outer s H vs Q E hr h => ?_)
  · obtain ⟨_, _, rfl, _⟩ := h
    rfl
  obtain ⟨v, e, rfl, ⟨a, x, rfl, ha, _⟩, q⟩ := h
  have nd := scIsEdit.nd
  refine ⟨_, pss_cons (ps_if (PW.pt (pw_or (pt_not (pt_val (pe_callB call_isi (by rfl) mI (by decide +kernel) (pa_cons (pv 0) (pa_cons (pe_bltn (v := .ty "tuple") (by rfl) mTuple (by decide +kernel) rfl) pa_nil)))))
      (pw_or1 (pt_cmpR op_ne (pe_callB call_len_seq (by rfl) mLen PySem.boot_len (pa_cons (pv 0) pa_nil)) pe_int (nomark _))))) (pss_one (ps_ret pe_bl)) pss_nil)
    (pss_one (ps_ret (pe_and (pe_callB call_isi (by rfl) mI (by decide +kernel) (pa_cons (pe_ix (r := rIxT K) ix_tup (pv 0) pe_int (fun _ _ => rfl)) (pa_cons (pe_bltn (v := .ty "str") (by rfl) mStr (by decide +kernel) rfl) pa_nil)))
      (pe_one (pe_cmpR (op_inMk rfl rfl M) (pe_ix (r := rIxT K) ix_tup (pv 0) pe_int (fun _ _ => rfl)) (pe_glob (v := .ref dM) (by rfl) mM rfl) (by rfl)))))), ?_⟩
  refine ⟨_, rfl, .ref a, .ty "tuple", _, _, true, rfl, .ty "tuple", .base (.tup ha), kit_ty (by decide +kernel), _, rfl, ?_⟩
  refine ⟨_, rfl, a, _, rfl, .inr (.inl (.inl ha)), rfl, _, rfl, ?_⟩
  refine ⟨_, rfl, a, _, 0, .str e.word, rfl, rfl, .inl (.inl ha), atI_nat (j := 0) rfl, .str e.word, .ty "str", _, _, true, rfl, .ty "str", .base (.str _), kit_ty (by decide +kernel), true, rfl, ?_⟩
  exact ⟨_, rfl, a, _, 0, .str e.word, rfl, rfl, .inl (.inl ha), atI_nat (j := 0) rfl, e, rfl, rfl, q⟩
def spMade (CF CI : Addr) : Sp := fun vs H Q E => ∃ (v ev : V) (a : Addr) (x : V) (m : Nat) (S : Store) (e : Edit), vs = [v, ev] ∧ ev = .ref a ∧ H a = some (.tup [.str e.word, x]) ∧ StepAsks e (e.pick CF CF CI CI) v x m S H Q E
theorem ok_made {f dM fp ft fa fdr CF CI : Addr} {fd d1 d2 d3 d4 : FuncData} (F : Fun K "made" "made" sMade f fd) (M : Makers K w dM fp ft fa fdr) (mM : mg "MAKERS" = some (.ref dM))
    (G1 : FnOk P w K mg base (L2.CX P w) 5 fp d1 ["store", "fact"] (spPut CF)) (b1 : Binds K d1 ["store", "fact"] []) (k1 : PySem.W.keepIn K (.ref fp) = true) (_ : mg "put_fact" = some (.ref fp))
    (G2 : FnOk P w K mg base (L2.CX P w) 5 ft d2 ["store", "fact"] (spTake CF)) (b2 : Binds K d2 ["store", "fact"] []) (k2 : PySem.W.keepIn K (.ref ft) = true) (_ : mg "take_fact" = some (.ref ft))
    (G3 : FnOk P w K mg base (L2.CX P w) 5 fa d3 ["store", "item"] (spAdd CI)) (b3 : Binds K d3 ["store", "item"] []) (k3 : PySem.W.keepIn K (.ref fa) = true) (_ : mg "add_item" = some (.ref fa))
    (G4 : FnOk P w K mg base (L2.CX P w) 5 fdr d4 ["store", "item"] (spDrop CI)) (b4 : Binds K d4 ["store", "item"] []) (k4 : PySem.W.keepIn K (.ref fdr) = true) (_ : mg "drop_item" = some (.ref fdr)) : FnOk P w K mg base (L2.CX P w) 6 f fd ["store", "edit"] (spMade CF CI) := by
  refine F.okX scMade (fun vs H Q E h => ?_) (fun cdv A outer s H vs Q E hr h => ?_)
  · obtain ⟨_, _, _, _, _, _, _, rfl, _⟩ := h
    rfl
  obtain ⟨v, ev, a, x, m, S, e, rfl, rfl, ha, h⟩ := h
  have nd := scMade.nd
  refine ⟨_, pss_cons (ps_asg (pv 1) (pg_tup rfl (pgs_cons (pg_name (i := 2) nd rfl (.inl rfl)) (pgs_cons (pg_name (i := 3) nd rfl (.inl rfl)) pgs_nil))))
    (pss_cons (ps_set (i := 4) nd rfl (.inl rfl) (pe_ix (r := rIxD K w) ix_kdict (pe_glob (v := .ref dM) (by rfl) mM rfl) (pv 2) (fun _ _ => rfl)))
    (pss_one (ps_ret (pe_callM (i := 4) (k := 5) (CX := L2.CX P w) (S := fun g sp => (g = fp ∧ sp = spPut CF) ∨ (g = ft ∧ sp = spTake CF) ∨ (g = fa ∧ sp = spAdd CI) ∨ (g = fdr ∧ sp = spDrop CI)) (fun g sp hS => by
      rcases hS with ⟨rfl, rfl⟩ | ⟨rfl, rfl⟩ | ⟨rfl, rfl⟩ | ⟨rfl, rfl⟩
      · exact ⟨_, _, G1, k1, b1⟩
      · exact ⟨_, _, G2, k2, b2⟩
      · exact ⟨_, _, G3, k3, b3⟩
      · exact ⟨_, _, G4, k4, b4⟩) (hr.mono (by decide)) rfl (Or.inl rfl) (fun σ => passAt (takes_of rfl rfl rfl rfl) σ) (pa_cons (pv 0) (pa_cons (pv 3) pa_nil)))))), ?_⟩
  obtain ⟨es, n, Dt⟩ := M.ex
  refine ⟨_, rfl, a, _, rfl, .inl (.inl ha), rfl, _, _, rfl, _, _, rfl, rfl, ?_⟩
  refine ⟨_, rfl, dM, e.word, .ref (e.pick fp ft fa fdr), rfl, rfl, ⟨es, n, _, Dt.at_, Dt.lit, M.at e, rfl⟩, ?_⟩
  cases e with
  | put y => exact ⟨fp, _, .inl ⟨rfl, rfl⟩, rfl, _, rfl, _, rfl, v, x, m, S, y, rfl, h⟩
  | take y => exact ⟨ft, _, .inr (.inl ⟨rfl, rfl⟩), rfl, _, rfl, _, rfl, v, x, m, S, y, rfl, h⟩
  | add y => exact ⟨fa, _, .inr (.inr (.inl ⟨rfl, rfl⟩)), rfl, _, rfl, _, rfl, v, x, m, S, y, rfl, h⟩
  | drop y => exact ⟨fdr, _, .inr (.inr (.inr ⟨rfl, rfl⟩)), rfl, _, rfl, _, rfl, v, x, m, S, y, rfl, h⟩
end
end DQ

set_option Elab.async false
set_option linter.all false
set_option maxRecDepth 100000
set_option maxHeartbeats 1000000
namespace DQ
open PySem PySem.Spec PyProof.Rows L2
def editD : PyData → Bool
  | .tuple [.str x, _] => decide (x = "put" ∨ x = "take" ∨ x = "add" ∨ x = "drop")
  | _ => false
/-- the words that are asked of the table -/
def Known (K : PySem.W.Frag) (d : Addr) (D : PyData) : Prop := ∀ x y, D = .tuple [.str x, y] → ∃ r, PySem.W.nsIn K d x = some r ∧ r.isSome = decide (x = "put" ∨ x = "take" ∨ x = "add" ∨ x = "drop")
theorem Known.of {K : PySem.W.Frag} {w : World} {d fp ft fa fd : Addr} (M : Makers K w d fp ft fa fd) (lay : PySem.W.nsIn K d "lay" = some none) {D : PyData} (h : ∀ x y, D = .tuple [.str x, y] → x ∈ (["put", "take", "add", "drop", "lay"] : List Str)) : Known K d D := fun x y e => by
  have h := h x y e
  simp only [List.mem_cons, List.not_mem_nil, or_false] at h
  rcases h with rfl | rfl | rfl | rfl | rfl
  · exact ⟨_, M.put, by rw [show decide ((("put" : Str) = "put") ∨ (("put" : Str) = "take") ∨ (("put" : Str) = "add") ∨ (("put" : Str) = "drop")) = true by decide +kernel]; rfl⟩
  · exact ⟨_, M.take, by rw [show decide ((("take" : Str) = "put") ∨ (("take" : Str) = "take") ∨ (("take" : Str) = "add") ∨ (("take" : Str) = "drop")) = true by decide +kernel]; rfl⟩
  · exact ⟨_, M.add, by rw [show decide ((("add" : Str) = "put") ∨ (("add" : Str) = "take") ∨ (("add" : Str) = "add") ∨ (("add" : Str) = "drop")) = true by decide +kernel]; rfl⟩
  · exact ⟨_, M.drop, by rw [show decide ((("drop" : Str) = "put") ∨ (("drop" : Str) = "take") ∨ (("drop" : Str) = "add") ∨ (("drop" : Str) = "drop")) = true by decide +kernel]; rfl⟩
  · exact ⟨_, lay, by decide +kernel⟩
/-- word in MAKERS, any word that the table is asked for -/
def rInMg (K : PySem.W.Frag) (d : Addr) : R2 := fun x y H Q => ∃ (z : Str) (r : Option Value), x = .str z ∧ y = .ref d ∧ PySem.W.nsIn K d z = some r ∧ Q (.bl r.isSome) H
theorem op_inMg {X : Cx} {K : PySem.W.Frag} {w : World} {d fp ft fa fd : Addr} (hk : X.K = K) (hw : X.w = w) (M : Makers K w d fp ft fa fd) : OpR X (compareOp .In) (rInMg K d) := by
  subst hk hw
  obtain ⟨es, n, D⟩ := M.ex
  exact op_in_kd D
section
variable {P : Program} {w : World} {K : PySem.W.Frag} {mg : Str → Option Value} {base : Heap}
def spIsEditG (K : PySem.W.Frag) (dM : Addr) : Sp := fun vs H Q _ => ∃ (v : V) (d : PyData), vs = [v] ∧ Dp K H v d ∧ Known K dM d ∧ Q (.bl (editD d)) H
theorem ok_isEditG {f dM fp ft fa fdr : Addr} {fd : FuncData} (F : Fun K "is_edit" "is_edit" sIsEdit f fd) (M : Makers K w dM fp ft fa fdr) (mM : mg "MAKERS" = some (.ref dM))
    (mI : mg "isinstance" = none) (mTuple : mg "tuple" = none) (mLen : mg "len" = none) (mStr : mg "str" = none) : FnOk P w K mg base CX0 1 f fd ["value"] (spIsEditG K dM) := by
  refine F.ok scIsEdit (fun vs H Q E h => ?_) (fun cdv A outer s H vs Q E hr h => ?_)
  · obtain ⟨_, _, rfl, _⟩ := h
    rfl
  obtain ⟨v, d, rfl, hd, kn, q⟩ := h
  have nd := scIsEdit.nd
  refine ⟨_, pss_cons (ps_if (PW.pt (pw_or (pt_not (pt_val (pe_callB call_isi (by rfl) mI (by decide +kernel) (pa_cons (pv 0) (pa_cons (pe_bltn (v := .ty "tuple") (by rfl) mTuple (by decide +kernel) rfl) pa_nil)))))
      (pw_or1 (pt_cmpR op_ne (pe_callB call_len_seq (by rfl) mLen PySem.boot_len (pa_cons (pv 0) pa_nil)) pe_int (nomark _))))) (pss_one (ps_ret pe_bl)) pss_nil)
    (pss_one (ps_ret (pe_and (pe_callB call_isi (by rfl) mI (by decide +kernel) (pa_cons (pe_ix (r := rIxT K) ix_tup (pv 0) pe_int (fun _ _ => rfl)) (pa_cons (pe_bltn (v := .ty "str") (by rfl) mStr (by decide +kernel) rfl) pa_nil)))
      (pe_one (pe_cmpR (op_inMg rfl rfl M) (pe_ix (r := rIxT K) ix_tup (pv 0) pe_int (fun _ _ => rfl)) (pe_glob (v := .ref dM) (by rfl) mM rfl) (by rfl)))))), ?_⟩
  have ty := dp_ty hd
  refine ⟨_, rfl, v, .ty "tuple", _, _, _, rfl, .ty "tuple", ty, kit_data (by simp) d, _, rfl, ite2 (fun c1 => ?_) fun c1 => ?_⟩
  · have e : editD d = false := by
      cases hd with
      | tup hs ha => exact absurd c1 (by simp only [isT, tyN]; decide)
      | _ => rfl
    rw [e] at q
    exact q
  cases hd with
  | @tup a xs ds hs ha =>
    have len := dpAll_len ha
    refine ⟨_, rfl, a, xs, rfl, .inr hs, rfl, _, rfl, ?_⟩
    refine ite2 (fun c2 => ?_) fun c2 => ?_
    · have c2 : xs.length ≠ 2 := fun e => by
        rw [e] at c2
        exact absurd c2 (by decide)
      have e : editD (.tuple ds) = false := by
        match ds, len with
        | [], _ => rfl
        | [x], _ => cases x <;> rfl
        | [x, y], l => exact absurd l c2
        | x :: y :: z :: r, _ => cases x <;> rfl
      rw [e] at q
      exact q
    have c2 : xs.length = 2 := by
      apply Classical.byContradiction
      intro e
      exact c2 (by
        rw [show decide (V.int ((xs.length : Nat) : Int) = V.int 2) = false from ne_int e]
        rfl)
    obtain ⟨x, y, rfl⟩ : ∃ x y, ds = [x, y] := by
      match ds, len with
      | [], l => rw [c2] at l; cases l
      | [x], l => rw [c2] at l; cases l
      | [x, y], _ => exact ⟨x, y, rfl⟩
      | x :: y :: z :: r, l => rw [c2] at l; simp at l
    obtain ⟨vx, vy, rfl⟩ : ∃ a b, xs = [a, b] := by
      match xs, c2 with
      | [a, b], _ => exact ⟨a, b, rfl⟩
    cases ha with
    | cons hx hr =>
      have tyx := dp_ty hx
      refine ⟨_, rfl, a, _, 0, vx, rfl, rfl, hs, atI_nat (j := 0) rfl, vx, .ty "str", _, _, _, rfl, .ty "str", tyx, kit_data (by simp) x, _, rfl, ite2 (fun c3 => ?_) fun c3 => ?_⟩
      · cases hx with
        | str z =>
          obtain ⟨r, e1, e2⟩ := kn z y rfl
          refine ⟨_, rfl, a, _, 0, .str z, rfl, rfl, hs, atI_nat (j := 0) rfl, z, r, rfl, rfl, e1, ?_⟩
          rw [e2]
          exact q
        | _ => exact absurd c3 (by simp only [isT, tyN]; decide)
      · have e : editD (.tuple [x, y]) = false := by
          cases hx with
          | str z => exact absurd rfl c3
          | _ => rfl
        rw [e] at q
        exact q
  | _ => exact absurd rfl c1
end
end DQ

set_option Elab.async false
set_option linter.all false
set_option maxRecDepth 100000
set_option maxHeartbeats 1000000
namespace DQ
open PySem PySem.Spec PyProof.Rows L2
section
variable {P : Program} {w : World} {K : PySem.W.Frag} {mg : Str → Option Value} {base : Heap}
/-- what one edit of a store asks, whatever stands behind its word -/
def DeedG (K : PySem.W.Frag) (CF CI CT : Addr) (word : Str) : Sp := fun vs H Q E =>
  (word = "put" ∧ (spPut CF vs H Q E ∨ spNoFact K CF vs H Q E)) ∨ (word = "take" ∧ (spTake CF vs H Q E ∨ spNoFact K CF vs H Q E)) ∨ (word = "add" ∧ spAddG K CI CT vs H Q E) ∨ (word = "drop" ∧ spDropG K CI vs H Q E)
def spMadeG (K : PySem.W.Frag) (CF CI CT : Addr) : Sp := fun vs H Q E => ∃ (v : V) (a : Addr) (x : V) (word : Str), vs = [v, .ref a] ∧ H a = some (.tup [.str word, x]) ∧ DeedG K CF CI CT word [v, x] H Q E
theorem ok_madeG {f dM fp ft fa fdr CF CI CT : Addr} {fd d1 d2 d3 d4 : FuncData} (F : Fun K "made" "made" sMade f fd) (M : Makers K w dM fp ft fa fdr) (mM : mg "MAKERS" = some (.ref dM))
    (G1 : FnOk P w K mg base (L2.CX P w) 5 fp d1 ["store", "fact"] (fun vs H Q E => spPut CF vs H Q E ∨ spNoFact K CF vs H Q E)) (b1 : Binds K d1 ["store", "fact"] []) (k1 : PySem.W.keepIn K (.ref fp) = true) (_ : mg "put_fact" = some (.ref fp))
    (G2 : FnOk P w K mg base (L2.CX P w) 5 ft d2 ["store", "fact"] (fun vs H Q E => spTake CF vs H Q E ∨ spNoFact K CF vs H Q E)) (b2 : Binds K d2 ["store", "fact"] []) (k2 : PySem.W.keepIn K (.ref ft) = true) (_ : mg "take_fact" = some (.ref ft))
    (G3 : FnOk P w K mg base (L2.CX P w) 5 fa d3 ["store", "item"] (spAddG K CI CT)) (b3 : Binds K d3 ["store", "item"] []) (k3 : PySem.W.keepIn K (.ref fa) = true) (_ : mg "add_item" = some (.ref fa))
    (G4 : FnOk P w K mg base (L2.CX P w) 5 fdr d4 ["store", "item"] (spDropG K CI)) (b4 : Binds K d4 ["store", "item"] []) (k4 : PySem.W.keepIn K (.ref fdr) = true) (_ : mg "drop_item" = some (.ref fdr)) : FnOk P w K mg base (L2.CX P w) 6 f fd ["store", "edit"] (spMadeG K CF CI CT) := by
  refine F.okX scMade (fun vs H Q E h => ?_) (fun cdv A outer s H vs Q E hr h => ?_)
  · obtain ⟨_, _, _, _, rfl, _⟩ := h
    rfl
  obtain ⟨v, a, x, word, rfl, ha, h⟩ := h
  have nd := scMade.nd
  refine ⟨_, pss_cons (ps_asg (pv 1) (pg_tup rfl (pgs_cons (pg_name (i := 2) nd rfl (.inl rfl)) (pgs_cons (pg_name (i := 3) nd rfl (.inl rfl)) pgs_nil))))
    (pss_cons (ps_set (i := 4) nd rfl (.inl rfl) (pe_ix (r := rIxD K w) ix_kdict (pe_glob (v := .ref dM) (by rfl) mM rfl) (pv 2) (fun _ _ => rfl)))
    (pss_one (ps_ret (pe_callM (i := 4) (k := 5) (CX := L2.CX P w) (S := fun g sp => (g = fp ∧ sp = fun vs H Q E => spPut CF vs H Q E ∨ spNoFact K CF vs H Q E) ∨ (g = ft ∧ sp = fun vs H Q E => spTake CF vs H Q E ∨ spNoFact K CF vs H Q E) ∨ (g = fa ∧ sp = spAddG K CI CT) ∨ (g = fdr ∧ sp = spDropG K CI)) (fun g sp hS => by
      rcases hS with ⟨rfl, rfl⟩ | ⟨rfl, rfl⟩ | ⟨rfl, rfl⟩ | ⟨rfl, rfl⟩
      · exact ⟨_, _, G1, k1, b1⟩
      · exact ⟨_, _, G2, k2, b2⟩
      · exact ⟨_, _, G3, k3, b3⟩
      · exact ⟨_, _, G4, k4, b4⟩) (hr.mono (by decide)) rfl (Or.inl rfl) (fun σ => passAt (takes_of rfl rfl rfl rfl) σ) (pa_cons (pv 0) (pa_cons (pv 3) pa_nil)))))), ?_⟩
  obtain ⟨es, n, Dt⟩ := M.ex
  refine ⟨_, rfl, a, _, rfl, .inl (.inl ha), rfl, _, _, rfl, _, _, rfl, rfl, ?_⟩
  rcases h with ⟨rfl, h⟩ | ⟨rfl, h⟩ | ⟨rfl, h⟩ | ⟨rfl, h⟩
  · exact ⟨_, rfl, dM, "put", .ref fp, rfl, rfl, ⟨es, n, _, Dt.at_, Dt.lit, M.put, rfl⟩, fp, _, .inl ⟨rfl, rfl⟩, rfl, _, rfl, _, rfl, h⟩
  · exact ⟨_, rfl, dM, "take", .ref ft, rfl, rfl, ⟨es, n, _, Dt.at_, Dt.lit, M.take, rfl⟩, ft, _, .inr (.inl ⟨rfl, rfl⟩), rfl, _, rfl, _, rfl, h⟩
  · exact ⟨_, rfl, dM, "add", .ref fa, rfl, rfl, ⟨es, n, _, Dt.at_, Dt.lit, M.add, rfl⟩, fa, _, .inr (.inr (.inl ⟨rfl, rfl⟩)), rfl, _, rfl, _, rfl, h⟩
  · exact ⟨_, rfl, dM, "drop", .ref fdr, rfl, rfl, ⟨es, n, _, Dt.at_, Dt.lit, M.drop, rfl⟩, fdr, _, .inr (.inr (.inr ⟨rfl, rfl⟩)), rfl, _, rfl, _, rfl, h⟩
end
end DQ

set_option Elab.async false
set_option linter.all false
set_option maxRecDepth 100000
set_option maxHeartbeats 1000000
namespace DQ
open PySem PySem.Spec PyProof.Rows L2
abbrev sCheckEdits : Stmt := topS 46
abbrev sAllMade : Stmt := topS 47
abbrev sDone : Stmt := topS 48
abbrev NAm : List Str := ["store", "edits", "after", "edit"]
theorem scCheckEdits : FnScope ["edits", "edit"] ["edits"] (defScope sCheckEdits) := ⟨rfl, rfl, rfl, by decide +kernel, rfl, by decide +kernel, by decide +kernel⟩
theorem scAllMade : FnScope NAm ["store", "edits"] (defScope sAllMade) := ⟨rfl, rfl, rfl, by decide +kernel, rfl, by decide +kernel, by decide +kernel⟩
theorem scDone : FnScope ["store", "edits"] ["store", "edits"] (defScope sDone) := ⟨rfl, rfl, rfl, by decide +kernel, rfl, by decide +kernel, by decide +kernel⟩
def EdsAt (H : Hp) (ws : List V) (es : List Edit) : Prop := Paired (fun v e => EdAt H e v) ws es
theorem EdsAt.same {H H' : Hp} {ws : List V} {es : List Edit} (s : Same H H') (h : EdsAt H ws es) : EdsAt H' ws es := paired_mono (fun _ _ q => q.same s) h
/-- all edits, one after the other -/
def path : Store → List Edit → Option Store
  | S, [] => some S
  | S, e :: r => (step S e).bind fun S' => path S' r
theorem path_snoc {e : Edit} : ∀ {es : List Edit} {S S1 : Store}, path S es = some S1 → path S (es ++ [e]) = step S1 e
  | [], S, S1, h => by
    cases h
    show (step S e).bind (fun S' => some S') = _
    cases step S e <;> rfl
  | x :: r, S, S1, h => by
    show (step S x).bind (fun S' => path S' (r ++ [e])) = _
    have h : (step S x).bind (fun S' => path S' r) = some S1 := h
    cases q : step S x with
    | none => rw [q] at h; cases h
    | some S' =>
      rw [q] at h
      exact path_snoc (es := r) (show path S' r = some S1 from h)
/-- a prefix of a path that can be gone can be gone -/
theorem path_take {k : Nat} : ∀ {es : List Edit} {S S1 : Store}, path S es = some S1 → ∃ S2, path S (es.take k) = some S2 := by
  induction k with
  | zero => exact fun {es S S1} _ => ⟨S, rfl⟩
  | succ k ih =>
    intro es S S1 h
    cases es with
    | nil => exact ⟨S, rfl⟩
    | cons e r =>
      have h : (step S e).bind (fun S' => path S' r) = some S1 := h
      cases q : step S e with
      | none => rw [q] at h; cases h
      | some S' =>
        rw [q] at h
        obtain ⟨S2, h2⟩ := ih (show path S' r = some S1 from h)
        exact ⟨S2, by show (step S e).bind (fun S' => path S' (r.take k)) = some S2; rw [q]; exact h2⟩
section
variable {P : Program} {w : World} {K : PySem.W.Frag} {mg : Str → Option Value} {base : Heap}
def spCheckEdits : Sp := fun vs H Q _ => ∃ (a : Addr) (ws : List V) (es : List Edit), vs = [.ref a] ∧ H a = some (.lst ws) ∧ EdsAt H ws es ∧ es.length ≤ 1000 ∧ ∀ H', Same H H' → Q .non H'
theorem ok_checkEdits {f f1 C : Addr} {fd d1 : FuncData} (F : Fun K "check_edits" "check_edits" sCheckEdits f fd)
    (G1 : FnOk P w K mg base CX0 1 f1 d1 ["value"] spIsEdit) (b1 : Binds K d1 ["value"] []) (k1 : PySem.W.keepIn K (.ref f1) = true) (m1 : mg "is_edit" = some (.ref f1))
    (mI : mg "isinstance" = none) (mList : mg "list" = none) (mAll : mg "all" = none) (U : ErrUse P w K mg base "InvalidList" C) : FnOk P w K mg base (L2.CX P w) 3 f fd ["edits"] spCheckEdits := by
  obtain ⟨fI, fdI, ds, iC, tI, oI, bI, _, _, _⟩ := U.ok
  refine F.okX scCheckEdits (fun vs H Q E h => ?_) (fun cdv A outer s H vs Q E hr h => ?_)
  · obtain ⟨_, _, _, rfl, _⟩ := h
    rfl
  obtain ⟨a, ws, es, rfl, ha, eds, few, q⟩ := h
  have nd := scCheckEdits.nd
  have lw : ws.length = es.length := Paired.length eds
  refine ⟨_, pss_one (ps_if (PW.pt (pw_or (pt_not (pt_val (pe_callB call_isi (by rfl) mI (by decide +kernel) (pa_cons (pv 0) (pa_cons (pe_bltn (v := .ty "list") (by rfl) mList (by decide +kernel) rfl) pa_nil)))))
      (pw_or1 (pt_not (pt_val (pe_callB (cr_all rfl) (by rfl) mAll (by decide +kernel) (pa_cons (pe_lc (own := [("edit", 1)]) (g := gName 1) (tt := tYes) rfl nd (pi_list (pv 0)) (blkOk_by (own := [("edit", 1)]) (N := ["edits", "edit"]) (sc := defScope sCheckEdits) (by decide +kernel)) (fun _ _ _ _ _ => pg_name (i := 1) nd rfl (Or.inl rfl)) (fun _ _ _ _ _ => pts_nil)
        (fun _ _ _ _ _ => pe_call G1 (hr.mono (by decide)) rfl m1 k1 b1 .nil pass0 (pa_cons (pv 1) pa_nil))) pa_nil))))))) (pss_one (ps_raise rfl (takes_of rfl rfl rfl rfl) (pmk_oex U.T iC tI oI (hr.mono (by decide)) bI .nil pass0 (by rfl) U.g (pa_cons (pv 0) pa_nil)))) pss_nil), ?_⟩
  refine ⟨_, rfl, .ref a, .ty "list", _, _, true, rfl, .ty "list", .base (.lst ha), kit_ty (by decide +kernel), _, rfl, ?_⟩
  refine ⟨_, rfl, a, rfl, ⟨_, SqL.of ha⟩, fun D nD => lc_bools (walk_list (K := K) (a := a) (xs := ws)) (es.map fun _ => true) (by rw [List.length_map, lw]) (Nat.lt_of_le_of_lt (show ws.length ≤ 1000 by omega) (by decide)) nD (fun H' s' => SqL.of (s' _ _ ha))
    (fun j H' v H'' y => by rw [y.1]; exact fun _ _ h => h) (fun j v H' H'' b hj hb s' y R hR => ?_) (fun H1 s1 e1 => ?_) (fun _ _ _ _ _ m h => m _ _ h)⟩
  · obtain ⟨rfl, hv⟩ := y
    obtain ⟨e, he, r⟩ := paired_at eds hv
    rw [List.getElem?_map, he] at hb
    injection hb with hb
    subst hb
    exact ⟨rfl, _, rfl, v, e, rfl, r.same s', hR _ (fun _ _ h => h)⟩
  · refine ⟨D, _, rfl, SqL.of e1, _, rfl, ?_⟩
    rw [show (es.map fun _ => true).all id = true by simp]
    exact ite2 (fun c => by simp at c) fun _ => q H1 s1
def spAllMade : Sp := fun vs H Q _ => ∃ (v : V) (a : Addr) (ws : List V) (es : List Edit) (m : Nat) (S S' : Store), vs = [v, .ref a] ∧ H a = some (.lst ws) ∧ EdsAt H ws es ∧ (∀ e ∈ es, EdOk e) ∧ StoAt H v S ∧ Drawn m S ∧ m + es.length ≤ 150 ∧ path S es = some S' ∧
  ∀ (v' : V) (H' : Hp), Same H H' → NewSto H H' v' S' → Q v' H'
theorem ok_allMade {f f1 f3 CF CI : Addr} {fd d1 d3 : FuncData} (F : Fun K "all_made" "all_made" sAllMade f fd)
    (G1 : FnOk P w K mg base (L2.CX P w) 6 f1 d1 ["store", "edit"] (spMade CF CI)) (b1 : Binds K d1 ["store", "edit"] []) (k1 : PySem.W.keepIn K (.ref f1) = true) (m1 : mg "made" = some (.ref f1))
    (G3 : FnOk P w K mg base CX0 1 f3 d3 ["store", "items", "facts"] (spRemade K)) (b3 : Binds K d3 ["store", "items", "facts"] []) (k3 : PySem.W.keepIn K (.ref f3) = true) (m3 : mg "remade" = some (.ref f3)) : FnOk P w K mg base (L2.CX P w) 7 f fd ["store", "edits"] spAllMade := by
  refine F.okX scAllMade (fun vs H Q E h => ?_) (fun cdv A outer s H vs Q E hr h => ?_)
  · obtain ⟨_, _, _, _, _, _, _, rfl, _⟩ := h
    rfl
  obtain ⟨v, a, ws, es, m, S, S', rfl, ha, eds, oks, A0, D, hm, pth, q⟩ := h
  have nd := scAllMade.nd
  refine ⟨_, pss_cons (ps_set (i := 2) nd rfl (.inl rfl) (pe_call G3 (hr.mono (by decide)) rfl m3 k3 b3 .nil pass0 (pa_cons (pv 0) (pa_cons (pe_ix (r := rIxT K) ix_tup (pv 0) pe_int (fun _ _ => rfl)) (pa_cons (pe_ix (r := rIxT K) ix_tup (pv 0) pe_int (fun _ _ => rfl)) pa_nil)))))
    (pss_cons (ps_for (passes_of rfl) rfl (pi_list (pv 1)) (pg_name (i := 3) nd rfl (.inl rfl)) (pss_one (ps_set (i := 2) nd rfl (.inl rfl) (pe_callS G1 (hr.mono (by decide)) rfl m1 k1 b1 (fun σ => passAt (takes_of rfl rfl rfl rfl) σ) (pa_cons (pv 2) (pa_cons (pv 3) pa_nil))))))
    (pss_one (ps_ret (pv 2)))), ?_⟩
  obtain ⟨t, ma, ca, ia, fa, rs, rfl, ht, hma, hca, hia, hfa, tp⟩ := id A0
  refine ⟨_, rfl, _, rfl, t, _, 3, .ref ia, rfl, rfl, .inl (.inl ht), atI_nat (j := 3) rfl, _, rfl, t, _, 4, .ref fa, rfl, rfl, .inl (.inl ht), atI_nat (j := 4) rfl, .ref t, S, ia, fa, S.items, rs, S.facts, rfl, A0, SqL.of hia, SqL.of hfa, tp, fun v1 H1 s1 n1 => ?_⟩
  rw [sortI_id D.items.1, sortF_id D.rise] at n1
  refine ⟨_, rfl, a, rfl, ⟨_, SqL.of (s1 _ _ ha)⟩, for_list (K := K) (a := a) (xs := ws) (fun k σ H' => ∃ (v2 : V) (y : Option V) (S2 : Store), σ = [some (.ref t), some (.ref a), some v2, y] ∧ Same H H' ∧ NewSto H H' v2 S2 ∧ path S (es.take k) = some S2 ∧ Drawn (m + k) S2)
    ⟨v1, none, S, rfl, s1, n1, rfl, D⟩ (fun k σ H' _ hP => ?_) (fun k x σ H' hx hP => ?_) fun σ H' hP => ?_⟩
  · obtain ⟨v2, y, S2, rfl, s2, _⟩ := hP
    exact SqL.of (s2 _ _ ha)
  · obtain ⟨v2, y, S2, rfl, s2, n2, p2, D2⟩ := hP
    obtain ⟨e, he, b, z, rfl, hb, hz⟩ := paired_at eds hx
    have kl : k < es.length := (List.getElem?_eq_some_iff.mp he).1
    obtain ⟨S3, p3⟩ := path_take (k := k + 1) pth
    have p4 := path_snoc (e := e) p2
    rw [take_next he] at p3
    have st := p4.symm.trans p3
    have ok := oks e (List.mem_of_getElem? he)
    refine ⟨_, rfl, _, rfl, v2, _, b, z, m + k, S2, e, rfl, rfl, s2 _ _ hb, n2.at, D2, by show m + k ≤ 150; omega, hz.same s2, ok, fun S4 e4 v4 H4 s4 n4 => ?_, fun no => by rw [st] at no; cases no⟩
    rw [st] at e4
    injection e4 with e4
    subst e4
    exact ⟨v4, _, S3, rfl, s2.trans s4, n4.up s2, by rw [take_next he]; exact p3, step_drawn (m := m + k) (by omega) D2 st fun i ei => by subst ei; exact ok⟩
  · obtain ⟨v2, y, S2, rfl, s2, n2, p2, D2⟩ := hP
    have lw : ws.length = es.length := Paired.length eds
    rw [lw, List.take_length, pth] at p2
    injection p2 with p2
    subst p2
    exact ⟨_, rfl, q v2 H' s2 n2⟩
def spDone : Sp := spAllMade
theorem ok_done {f fc f1 f2 C0 : Addr} {fd dc d1 d2 : FuncData} (F : Fun K "done" "done" sDone f fd)
    (GC : FnOk P w K mg base (L2.CX P w) 7 fc dc ["store"] (spCheck K C0)) (bC : Binds K dc ["store"] []) (kC : PySem.W.keepIn K (.ref fc) = true) (mC : mg "check_store" = some (.ref fc))
    (G1 : FnOk P w K mg base (L2.CX P w) 3 f1 d1 ["edits"] spCheckEdits) (b1 : Binds K d1 ["edits"] []) (k1 : PySem.W.keepIn K (.ref f1) = true) (m1 : mg "check_edits" = some (.ref f1))
    (G2 : FnOk P w K mg base (L2.CX P w) 7 f2 d2 ["store", "edits"] spAllMade) (b2 : Binds K d2 ["store", "edits"] []) (k2 : PySem.W.keepIn K (.ref f2) = true) (m2 : mg "all_made" = some (.ref f2)) : FnOk P w K mg base (L2.CX P w) 8 f fd ["store", "edits"] spDone := by
  refine F.okX scDone (fun vs H Q E h => ?_) (fun cdv A outer s H vs Q E hr h => ?_)
  · obtain ⟨_, _, _, _, _, _, _, rfl, _⟩ := h
    rfl
  obtain ⟨v, a, ws, es, m, S, S', rfl, ha, eds, oks, A0, D, hm, pth, q⟩ := h
  refine ⟨_, pss_cons (ps_expr (pe_callS GC hr rfl mC kC bC (fun σ => passAt (takes_of rfl rfl rfl rfl) σ) (pa_cons (pv 0) pa_nil)))
    (pss_cons (ps_expr (pe_callS G1 (hr.mono (by decide)) rfl m1 k1 b1 (fun σ => passAt (takes_of rfl rfl rfl rfl) σ) (pa_cons (pv 1) pa_nil)))
    (pss_one (ps_ret (pe_callS G2 (hr.mono (by decide)) rfl m2 k2 b2 (fun σ => passAt (takes_of rfl rfl rfl rfl) σ) (pa_cons (pv 0) (pa_cons (pv 1) pa_nil)))))), ?_⟩
  refine ⟨_, rfl, v, true, rfl, store_asks (by omega) D A0 fun H1 s1 => ⟨rfl, fun _ => ?_, (fun e => nomatch e)⟩⟩
  refine ⟨_, rfl, a, ws, es, rfl, s1 _ _ ha, eds.same s1, by omega, fun H2 s2 => ?_⟩
  have s02 : Same H H2 := s1.trans s2
  exact ⟨_, rfl, _, rfl, v, a, ws, es, m, S, S', rfl, s02 _ _ ha, eds.same s02, oks, stoAt_same s02 A0, D, hm, pth, fun v' H' s3 n => q v' H' (s02.trans s3) (n.up s02)⟩
end
end DQ

set_option Elab.async false
set_option linter.all false
set_option maxRecDepth 100000
set_option maxHeartbeats 1000000
namespace DQ
open PySem PySem.Spec PyProof.Rows L2
def editsD : PyData → Bool
  | .list ds => ds.all editD
  | _ => false
section
variable {P : Program} {w : World} {K : PySem.W.Frag} {mg : Str → Option Value} {base : Heap}
/-- the form of a list of edits, whatever is handed in -/
def spCheckEditsG (K : PySem.W.Frag) (dM C : Addr) : Sp := fun vs H Q E => ∃ (v : V) (d : PyData), vs = [v] ∧ Dp K H v d ∧ (∀ ds, d = .list ds → ds.length ≤ 10000 ∧ ∀ e ∈ ds, Known K dM e) ∧ (editsD d = true → ∀ H', Same H H' → Q .non H') ∧ (editsD d = false → ∀ H', Same H H' → Throws E C v H')
theorem ok_checkEditsG {f f1 C dM : Addr} {fd d1 : FuncData} (F : Fun K "check_edits" "check_edits" sCheckEdits f fd)
    (G1 : FnOk P w K mg base CX0 1 f1 d1 ["value"] (spIsEditG K dM)) (b1 : Binds K d1 ["value"] []) (k1 : PySem.W.keepIn K (.ref f1) = true) (m1 : mg "is_edit" = some (.ref f1))
    (mI : mg "isinstance" = none) (mList : mg "list" = none) (mAll : mg "all" = none) (U : ErrUse P w K mg base "InvalidList" C) : FnOk P w K mg base (L2.CX P w) 3 f fd ["edits"] (spCheckEditsG K dM C) := by
  obtain ⟨fI, fdI, ds, iC, tI, oI, bI, _, _, _⟩ := U.ok
  refine F.okX scCheckEdits (fun vs H Q E h => ?_) (fun cdv A outer s H vs Q E hr h => ?_)
  · obtain ⟨_, _, rfl, _⟩ := h
    rfl
  obtain ⟨v, d, rfl, hd, kn, good, bad⟩ := h
  have nd := scCheckEdits.nd
  refine ⟨_, pss_one (ps_if (PW.pt (pw_or (pt_not (pt_val (pe_callB call_isi (by rfl) mI (by decide +kernel) (pa_cons (pv 0) (pa_cons (pe_bltn (v := .ty "list") (by rfl) mList (by decide +kernel) rfl) pa_nil)))))
      (pw_or1 (pt_not (pt_val (pe_callB (cr_all rfl) (by rfl) mAll (by decide +kernel) (pa_cons (pe_lc (own := [("edit", 1)]) (g := gName 1) (tt := tYes) rfl nd (pi_list (pv 0)) (blkOk_by (own := [("edit", 1)]) (N := ["edits", "edit"]) (sc := defScope sCheckEdits) (by decide +kernel)) (fun _ _ _ _ _ => pg_name (i := 1) nd rfl (Or.inl rfl)) (fun _ _ _ _ _ => pts_nil)
        (fun _ _ _ _ _ => pe_call G1 (hr.mono (by decide)) rfl m1 k1 b1 .nil pass0 (pa_cons (pv 1) pa_nil))) pa_nil))))))) (pss_one (ps_raise rfl (takes_of rfl rfl rfl rfl) (pmk_oex U.T iC tI oI (hr.mono (by decide)) bI .nil pass0 (by rfl) U.g (pa_cons (pv 0) pa_nil)))) pss_nil), ?_⟩
  have ty := dp_ty hd
  refine ⟨_, rfl, v, .ty "list", _, _, _, rfl, .ty "list", ty, kit_data (by simp) d, _, rfl, ite2 (fun c1 => ?_) fun c1 => ?_⟩
  · have e : editsD d = false := by
      cases hd with
      | lst hs ha => exact absurd c1 (by simp only [isT, tyN]; decide)
      | _ => rfl
    exact ⟨_, rfl, (show 1 ≤ 1000 by decide), throw_read U.T U.noV (bad e H fun _ _ h => h)⟩
  cases hd with
  | @lst a xs es hs ha =>
    obtain ⟨few, kn⟩ := kn es rfl
    have len := dpAll_len ha
    refine ⟨_, rfl, a, rfl, ⟨_, hs⟩, fun D nD => lc_bools (walk_list (K := K) (a := a) (xs := xs)) (es.map editD) (by rw [List.length_map, len]) (Nat.lt_of_le_of_lt (show xs.length ≤ 10000 by rw [len]; exact few) (by decide)) nD (fun H' s' => L2.Same.seq s' hs)
      (fun j H' v H'' y => by rw [y.1]; exact fun _ _ h => h) (fun j v H' H'' b hj hb s' y R hR => ?_) (fun H1 s1 e1 => ?_) (fun _ _ _ _ _ m h => m _ _ h)⟩
    · obtain ⟨rfl, hv⟩ := y
      obtain ⟨e, he, rfl⟩ := all_at hb
      exact ⟨rfl, _, rfl, v, e, rfl, dp_same s' _ _ (dpAll_get ha hv he), kn e (List.mem_of_getElem? he), hR _ (fun _ _ h => h)⟩
    · refine ⟨D, _, rfl, SqL.of e1, _, rfl, ?_⟩
      rw [List.all_map]
      refine ite2 (fun c => ?_) fun c => ?_
      · have c : (!es.all editD) = true := c
        exact ⟨_, rfl, (show 1 ≤ 1000 by decide), throw_read U.T U.noV (bad (by simpa [editsD] using c) H1 s1)⟩
      · have c : ¬ (!es.all editD) = true := c
        exact good (by simpa [editsD] using c) H1 s1
  | _ => exact absurd rfl c1
end
end DQ

set_option Elab.async false
set_option linter.all false
set_option maxRecDepth 100000
set_option maxHeartbeats 1000000
namespace DQ
open PySem PySem.Spec PyProof.Rows L2
/-- one edit after the other, each of the store that the one before made -/
def RoadG (K : PySem.W.Frag) (CF CI CT : Addr) (Q : VK) (E : XK) : List V → V → Hp → Prop
  | [], v, H => Q v H
  | ev :: r, v, H => ∃ (a : Addr) (x : V) (word : Str), ev = .ref a ∧ H a = some (.tup [.str word, x]) ∧ DeedG K CF CI CT word [v, x] H (fun v' H' => Same H H' ∧ RoadG K CF CI CT Q E r v' H') E
theorem deedG_mono {K : PySem.W.Frag} {CF CI CT : Addr} {word : Str} {vs : List V} {H : Hp} {Q Q' : VK} {E : XK} (m : ∀ v' H', Q v' H' → Q' v' H') (h : DeedG K CF CI CT word vs H Q E) : DeedG K CF CI CT word vs H Q' E := by
  rcases h with ⟨e, h⟩ | ⟨e, h⟩ | ⟨e, h⟩ | ⟨e, h⟩
  · refine .inl ⟨e, h.imp (fun h => ?_) fun h => ?_⟩
    · obtain ⟨v, w, n, S, x, e2, a1, a2, a3, a4, a5, q1, q2⟩ := h
      exact ⟨v, w, n, S, x, e2, a1, a2, a3, a4, a5, fun S' es v' H' s n => m _ _ (q1 S' es v' H' s n), q2⟩
    · exact h
  · refine .inr (.inl ⟨e, h.imp (fun h => ?_) fun h => ?_⟩)
    · obtain ⟨v, w, n, S, x, e2, a1, a2, a3, a4, a5, q1, q2⟩ := h
      exact ⟨v, w, n, S, x, e2, a1, a2, a3, a4, a5, fun S' es v' H' s n => m _ _ (q1 S' es v' H' s n), q2⟩
    · exact h
  · obtain ⟨v, w, n, S, d, e2, a1, a2, a3, a4, bad, good⟩ := h
    exact .inr (.inr (.inl ⟨e, v, w, n, S, d, e2, a1, a2, a3, a4, bad, fun i h1 h2 h3 h4 => ⟨(good i h1 h2 h3 h4).1, fun l v' H' s n => m _ _ ((good i h1 h2 h3 h4).2 l v' H' s n)⟩⟩))
  · obtain ⟨v, w, n, S, d, e2, a1, a2, a3, a4, bad, good⟩ := h
    exact .inr (.inr (.inr ⟨e, v, w, n, S, d, e2, a1, a2, a3, a4, bad, fun i h1 h2 h3 => ⟨(good i h1 h2 h3).1, fun l v' H' s n => m _ _ ((good i h1 h2 h3).2 l v' H' s n)⟩⟩))
section
variable {P : Program} {w : World} {K : PySem.W.Frag} {mg : Str → Option Value} {base : Heap}
def spAllMadeG (K : PySem.W.Frag) (CF CI CT : Addr) : Sp := fun vs H Q E => ∃ (v : V) (a : Addr) (ws : List V) (m : Nat) (S : Store), vs = [v, .ref a] ∧ H a = some (.lst ws) ∧ StoAt H v S ∧ Drawn m S ∧ ∀ (v1 : V) (H1 : Hp), Same H H1 → NewSto H H1 v1 S → RoadG K CF CI CT Q E ws v1 H1
theorem ok_allMadeG {f f1 f3 CF CI CT : Addr} {fd d1 d3 : FuncData} (F : Fun K "all_made" "all_made" sAllMade f fd)
    (G1 : FnOk P w K mg base (L2.CX P w) 6 f1 d1 ["store", "edit"] (spMadeG K CF CI CT)) (b1 : Binds K d1 ["store", "edit"] []) (k1 : PySem.W.keepIn K (.ref f1) = true) (m1 : mg "made" = some (.ref f1))
    (G3 : FnOk P w K mg base CX0 1 f3 d3 ["store", "items", "facts"] (spRemade K)) (b3 : Binds K d3 ["store", "items", "facts"] []) (k3 : PySem.W.keepIn K (.ref f3) = true) (m3 : mg "remade" = some (.ref f3)) : FnOk P w K mg base (L2.CX P w) 7 f fd ["store", "edits"] (spAllMadeG K CF CI CT) := by
  refine F.okX scAllMade (fun vs H Q E h => ?_) (fun cdv A outer s H vs Q E hr h => ?_)
  · obtain ⟨_, _, _, _, _, rfl, _⟩ := h
    rfl
  obtain ⟨v, a, ws, m, S, rfl, ha, A0, D, q⟩ := h
  have nd := scAllMade.nd
  refine ⟨_, pss_cons (ps_set (i := 2) nd rfl (.inl rfl) (pe_call G3 (hr.mono (by decide)) rfl m3 k3 b3 .nil pass0 (pa_cons (pv 0) (pa_cons (pe_ix (r := rIxT K) ix_tup (pv 0) pe_int (fun _ _ => rfl)) (pa_cons (pe_ix (r := rIxT K) ix_tup (pv 0) pe_int (fun _ _ => rfl)) pa_nil)))))
    (pss_cons (ps_for (passes_of rfl) rfl (pi_list (pv 1)) (pg_name (i := 3) nd rfl (.inl rfl)) (pss_one (ps_set (i := 2) nd rfl (.inl rfl) (pe_callS G1 (hr.mono (by decide)) rfl m1 k1 b1 (fun σ => passAt (takes_of rfl rfl rfl rfl) σ) (pa_cons (pv 2) (pa_cons (pv 3) pa_nil))))))
    (pss_one (ps_ret (pv 2)))), ?_⟩
  obtain ⟨t, ma, ca, ia, fa, rs, rfl, ht, hma, hca, hia, hfa, tp⟩ := id A0
  refine ⟨_, rfl, _, rfl, t, _, 3, .ref ia, rfl, rfl, .inl (.inl ht), atI_nat (j := 3) rfl, _, rfl, t, _, 4, .ref fa, rfl, rfl, .inl (.inl ht), atI_nat (j := 4) rfl, .ref t, S, ia, fa, S.items, rs, S.facts, rfl, A0, SqL.of hia, SqL.of hfa, tp, fun v1 H1 s1 n1 => ?_⟩
  rw [sortI_id D.items.1, sortF_id D.rise] at n1
  refine ⟨_, rfl, a, rfl, ⟨_, SqL.of (s1 _ _ ha)⟩, for_list (K := K) (a := a) (xs := ws) (fun k σ H' => ∃ (v2 : V) (y : Option V), σ = [some (.ref t), some (.ref a), some v2, y] ∧ H' a = some (.lst ws) ∧ RoadG K CF CI CT Q E (ws.drop k) v2 H')
    ⟨v1, none, rfl, s1 _ _ ha, q v1 H1 s1 n1⟩ (fun k σ H' _ hP => ?_) (fun k x σ H' hx hP => ?_) fun σ H' hP => ?_⟩
  · obtain ⟨v2, y, rfl, h2, _⟩ := hP
    exact SqL.of h2
  · obtain ⟨v2, y, rfl, h2, road⟩ := hP
    have kl : k < ws.length := (List.getElem?_eq_some_iff.mp hx).1
    have e : ws.drop k = x :: ws.drop (k + 1) := by
      rw [List.drop_eq_getElem_cons kl]
      rw [List.getElem?_eq_getElem kl] at hx
      injection hx with hx
      rw [hx]
    rw [e] at road
    obtain ⟨b, z, word, rfl, hb, deed⟩ := road
    refine ⟨_, rfl, _, rfl, v2, b, z, word, rfl, hb, deedG_mono (fun v' H4 h4 => ?_) deed⟩
    exact ⟨v', _, rfl, h4.1 _ _ h2, h4.2⟩
  · obtain ⟨v2, y, rfl, h2, road⟩ := hP
    rw [List.drop_length] at road
    exact ⟨_, rfl, road⟩
end
end DQ

set_option Elab.async false
set_option linter.all false
set_option maxRecDepth 100000
set_option maxHeartbeats 1000000
namespace DQ
open PySem PySem.Spec PyProof.Rows L2
/-- a call that first judges its store: none, or one and what the rest asks -/
def spAsked (K : PySem.W.Frag) (C0 : Addr) (sp : Sp) : Sp := fun vs H Q E => ∃ v w : V, vs = [v, w] ∧ (spIsStore K [v] H (fun x H1 => x = .bl false ∧ Throws E C0 v H1) (fun _ _ _ => False) ∨
  ∃ (m : Nat) (S : Store), m ≤ 2000 ∧ Drawn m S ∧ StoAt H v S ∧ ∀ H1, Same H H1 → sp [v, w] H1 Q E)
section
variable {P : Program} {w : World} {K : PySem.W.Frag} {mg : Str → Option Value} {base : Heap}
theorem ok_WFG {sp : Sp} {f fc f1 C0 : Addr} {fd dc d1 : FuncData} (F : Fun K "with_fact" "with_fact" sWF f fd)
    (GC : FnOk P w K mg base (L2.CX P w) 7 fc dc ["store"] (spCheck K C0)) (bC : Binds K dc ["store"] []) (kC : PySem.W.keepIn K (.ref fc) = true) (mC : mg "check_store" = some (.ref fc))
    (G1 : FnOk P w K mg base (L2.CX P w) 5 f1 d1 ["store", "fact"] sp) (b1 : Binds K d1 ["store", "fact"] []) (k1 : PySem.W.keepIn K (.ref f1) = true) (m1 : mg "put_fact" = some (.ref f1)) : FnOk P w K mg base (L2.CX P w) 8 f fd ["store", "fact"] (spAsked K C0 sp) := by
  refine F.okX scWF (fun vs H Q E h => ?_) (fun cdv A outer s H vs Q E hr h => ?_)
  · obtain ⟨_, _, rfl, _⟩ := h
    rfl
  obtain ⟨v, wv, rfl, h⟩ := h
  refine ⟨_, pss_cons (ps_expr (pe_callS GC hr rfl mC kC bC (fun σ => passAt (takes_of rfl rfl rfl rfl) σ) (pa_cons (pv 0) pa_nil)))
    (pss_one (ps_ret (pe_callS G1 (hr.mono (by decide)) rfl m1 k1 b1 (fun σ => passAt (takes_of rfl rfl rfl rfl) σ) (pa_cons (pv 0) (pa_cons (pv 1) pa_nil))))), ?_⟩
  rcases h with h | ⟨m, S, hm, D, A0, h⟩
  · exact ⟨_, rfl, v, false, rfl, isStore_mono h fun x H1 hx => ⟨hx.1, (fun e => nomatch e), fun _ => hx.2⟩⟩
  refine ⟨_, rfl, v, true, rfl, store_asks hm D A0 fun H1 sm => ⟨rfl, fun _ => ?_, (fun e => nomatch e)⟩⟩
  exact ⟨_, rfl, _, rfl, h H1 sm⟩
theorem ok_OFG {sp : Sp} {f fc f1 C0 : Addr} {fd dc d1 : FuncData} (F : Fun K "without_fact" "without_fact" sOF f fd)
    (GC : FnOk P w K mg base (L2.CX P w) 7 fc dc ["store"] (spCheck K C0)) (bC : Binds K dc ["store"] []) (kC : PySem.W.keepIn K (.ref fc) = true) (mC : mg "check_store" = some (.ref fc))
    (G1 : FnOk P w K mg base (L2.CX P w) 5 f1 d1 ["store", "fact"] sp) (b1 : Binds K d1 ["store", "fact"] []) (k1 : PySem.W.keepIn K (.ref f1) = true) (m1 : mg "take_fact" = some (.ref f1)) : FnOk P w K mg base (L2.CX P w) 8 f fd ["store", "fact"] (spAsked K C0 sp) := by
  refine F.okX scOF (fun vs H Q E h => ?_) (fun cdv A outer s H vs Q E hr h => ?_)
  · obtain ⟨_, _, rfl, _⟩ := h
    rfl
  obtain ⟨v, wv, rfl, h⟩ := h
  refine ⟨_, pss_cons (ps_expr (pe_callS GC hr rfl mC kC bC (fun σ => passAt (takes_of rfl rfl rfl rfl) σ) (pa_cons (pv 0) pa_nil)))
    (pss_one (ps_ret (pe_callS G1 (hr.mono (by decide)) rfl m1 k1 b1 (fun σ => passAt (takes_of rfl rfl rfl rfl) σ) (pa_cons (pv 0) (pa_cons (pv 1) pa_nil))))), ?_⟩
  rcases h with h | ⟨m, S, hm, D, A0, h⟩
  · exact ⟨_, rfl, v, false, rfl, isStore_mono h fun x H1 hx => ⟨hx.1, (fun e => nomatch e), fun _ => hx.2⟩⟩
  refine ⟨_, rfl, v, true, rfl, store_asks hm D A0 fun H1 sm => ⟨rfl, fun _ => ?_, (fun e => nomatch e)⟩⟩
  exact ⟨_, rfl, _, rfl, h H1 sm⟩
theorem ok_WIG {sp : Sp} {f fc f1 C0 : Addr} {fd dc d1 : FuncData} (F : Fun K "with_item" "with_item" sWI f fd)
    (GC : FnOk P w K mg base (L2.CX P w) 7 fc dc ["store"] (spCheck K C0)) (bC : Binds K dc ["store"] []) (kC : PySem.W.keepIn K (.ref fc) = true) (mC : mg "check_store" = some (.ref fc))
    (G1 : FnOk P w K mg base (L2.CX P w) 5 f1 d1 ["store", "item"] sp) (b1 : Binds K d1 ["store", "item"] []) (k1 : PySem.W.keepIn K (.ref f1) = true) (m1 : mg "add_item" = some (.ref f1)) : FnOk P w K mg base (L2.CX P w) 8 f fd ["store", "item"] (spAsked K C0 sp) := by
  refine F.okX scWI (fun vs H Q E h => ?_) (fun cdv A outer s H vs Q E hr h => ?_)
  · obtain ⟨_, _, rfl, _⟩ := h
    rfl
  obtain ⟨v, wv, rfl, h⟩ := h
  refine ⟨_, pss_cons (ps_expr (pe_callS GC hr rfl mC kC bC (fun σ => passAt (takes_of rfl rfl rfl rfl) σ) (pa_cons (pv 0) pa_nil)))
    (pss_one (ps_ret (pe_callS G1 (hr.mono (by decide)) rfl m1 k1 b1 (fun σ => passAt (takes_of rfl rfl rfl rfl) σ) (pa_cons (pv 0) (pa_cons (pv 1) pa_nil))))), ?_⟩
  rcases h with h | ⟨m, S, hm, D, A0, h⟩
  · exact ⟨_, rfl, v, false, rfl, isStore_mono h fun x H1 hx => ⟨hx.1, (fun e => nomatch e), fun _ => hx.2⟩⟩
  refine ⟨_, rfl, v, true, rfl, store_asks hm D A0 fun H1 sm => ⟨rfl, fun _ => ?_, (fun e => nomatch e)⟩⟩
  exact ⟨_, rfl, _, rfl, h H1 sm⟩
theorem ok_OIG {sp : Sp} {f fc f1 C0 : Addr} {fd dc d1 : FuncData} (F : Fun K "without_item" "without_item" sOI f fd)
    (GC : FnOk P w K mg base (L2.CX P w) 7 fc dc ["store"] (spCheck K C0)) (bC : Binds K dc ["store"] []) (kC : PySem.W.keepIn K (.ref fc) = true) (mC : mg "check_store" = some (.ref fc))
    (G1 : FnOk P w K mg base (L2.CX P w) 5 f1 d1 ["store", "item"] sp) (b1 : Binds K d1 ["store", "item"] []) (k1 : PySem.W.keepIn K (.ref f1) = true) (m1 : mg "drop_item" = some (.ref f1)) : FnOk P w K mg base (L2.CX P w) 8 f fd ["store", "item"] (spAsked K C0 sp) := by
  refine F.okX scOI (fun vs H Q E h => ?_) (fun cdv A outer s H vs Q E hr h => ?_)
  · obtain ⟨_, _, rfl, _⟩ := h
    rfl
  obtain ⟨v, wv, rfl, h⟩ := h
  refine ⟨_, pss_cons (ps_expr (pe_callS GC hr rfl mC kC bC (fun σ => passAt (takes_of rfl rfl rfl rfl) σ) (pa_cons (pv 0) pa_nil)))
    (pss_one (ps_ret (pe_callS G1 (hr.mono (by decide)) rfl m1 k1 b1 (fun σ => passAt (takes_of rfl rfl rfl rfl) σ) (pa_cons (pv 0) (pa_cons (pv 1) pa_nil))))), ?_⟩
  rcases h with h | ⟨m, S, hm, D, A0, h⟩
  · exact ⟨_, rfl, v, false, rfl, isStore_mono h fun x H1 hx => ⟨hx.1, (fun e => nomatch e), fun _ => hx.2⟩⟩
  refine ⟨_, rfl, v, true, rfl, store_asks hm D A0 fun H1 sm => ⟨rfl, fun _ => ?_, (fun e => nomatch e)⟩⟩
  exact ⟨_, rfl, _, rfl, h H1 sm⟩
/-- done: no store, no list of edits, or the road -/
def spDoneG (K : PySem.W.Frag) (dM C0 CL CF CI CT : Addr) : Sp := fun vs H Q E => ∃ (v w : V), vs = [v, w] ∧ (spIsStore K [v] H (fun x H1 => x = .bl false ∧ Throws E C0 v H1) (fun _ _ _ => False) ∨
  ∃ (m : Nat) (S : Store) (d : PyData), m ≤ 2000 ∧ Drawn m S ∧ StoAt H v S ∧ Dp K H w d ∧ (∀ ds, d = .list ds → ds.length ≤ 10000 ∧ ∀ e ∈ ds, Known K dM e) ∧ (editsD d = false → ∀ H', Same H H' → Throws E CL w H') ∧
   (editsD d = true → ∃ (a : Addr) (ws : List V), w = .ref a ∧ H a = some (.lst ws) ∧ ∀ (v1 : V) (H0 H1 : Hp), Same H H0 → Same H0 H1 → NewSto H0 H1 v1 S → RoadG K CF CI CT Q E ws v1 H1))
theorem ok_doneG {f fc f1 f2 dM C0 CL CF CI CT : Addr} {fd dc d1 d2 : FuncData} (F : Fun K "done" "done" sDone f fd)
    (GC : FnOk P w K mg base (L2.CX P w) 7 fc dc ["store"] (spCheck K C0)) (bC : Binds K dc ["store"] []) (kC : PySem.W.keepIn K (.ref fc) = true) (mC : mg "check_store" = some (.ref fc))
    (G1 : FnOk P w K mg base (L2.CX P w) 3 f1 d1 ["edits"] (spCheckEditsG K dM CL)) (b1 : Binds K d1 ["edits"] []) (k1 : PySem.W.keepIn K (.ref f1) = true) (m1 : mg "check_edits" = some (.ref f1))
    (G2 : FnOk P w K mg base (L2.CX P w) 7 f2 d2 ["store", "edits"] (spAllMadeG K CF CI CT)) (b2 : Binds K d2 ["store", "edits"] []) (k2 : PySem.W.keepIn K (.ref f2) = true) (m2 : mg "all_made" = some (.ref f2)) : FnOk P w K mg base (L2.CX P w) 8 f fd ["store", "edits"] (spDoneG K dM C0 CL CF CI CT) := by
  refine F.okX scDone (fun vs H Q E h => ?_) (fun cdv A outer s H vs Q E hr h => ?_)
  · obtain ⟨_, _, rfl, _⟩ := h
    rfl
  obtain ⟨v, wv, rfl, h⟩ := h
  refine ⟨_, pss_cons (ps_expr (pe_callS GC hr rfl mC kC bC (fun σ => passAt (takes_of rfl rfl rfl rfl) σ) (pa_cons (pv 0) pa_nil)))
    (pss_cons (ps_expr (pe_callS G1 (hr.mono (by decide)) rfl m1 k1 b1 (fun σ => passAt (takes_of rfl rfl rfl rfl) σ) (pa_cons (pv 1) pa_nil)))
    (pss_one (ps_ret (pe_callS G2 (hr.mono (by decide)) rfl m2 k2 b2 (fun σ => passAt (takes_of rfl rfl rfl rfl) σ) (pa_cons (pv 0) (pa_cons (pv 1) pa_nil)))))), ?_⟩
  rcases h with h | ⟨m, S, d, hm, D, A0, hd, kn, bad, good⟩
  · exact ⟨_, rfl, v, false, rfl, isStore_mono h fun x H1 hx => ⟨hx.1, (fun e => nomatch e), fun _ => hx.2⟩⟩
  refine ⟨_, rfl, v, true, rfl, store_asks hm D A0 fun H1 s1 => ⟨rfl, fun _ => ?_, (fun e => nomatch e)⟩⟩
  refine ⟨_, rfl, wv, d, rfl, dp_same s1 _ _ hd, kn, fun e H2 s2 => ?_, fun e H2 s2 => bad e H2 (s1.trans s2)⟩
  obtain ⟨a, ws, rfl, ha, go⟩ := good e
  have s02 : Same H H2 := s1.trans s2
  exact ⟨_, rfl, _, rfl, v, a, ws, m, S, rfl, s02 _ _ ha, stoAt_same s02 A0, D, fun v1 H3 s3 n => go v1 H2 H3 s02 s3 n⟩
end
end DQ

set_option Elab.async false
set_option linter.all false
set_option maxRecDepth 100000
set_option maxHeartbeats 1000000
namespace DQ
open PySem PySem.Spec PyProof.Rows L2
/-! ### try: body, except x as n: suite, where the error outlives the suite -/
/-- an error that was raised and caught stands at a -/
def exq (a : Addr) (cls : Value) (d : Option Addr) : HO := .ext fun h => ∃ (oe : Obj) (vs : Array Value), h.get? a = some oe ∧ Zc cls d oe ∧ oe.data = .fields vs
theorem exq_ok {P : Program} {w : World} {H : Hp} {h : Heap} {a : Addr} {cls : Value} {d : Option Addr} {oe : Obj} {vs : Array Value} (e : h.get? a = some oe) (z : Zc cls d oe) (hd : oe.data = .fields vs) : ObjOk P w H h a (exq a cls d) :=
  ⟨⟨oe, vs, e, z, hd⟩, ⟨oe, e⟩, fun h1 h2 ⟨o, v, e1, z1, d1⟩ k => ⟨o, v, k _ e1, z1, d1⟩⟩
section
variable {X : Cx} {pins : List (Addr × Obj)} {σ : L2.St} {H : Hp} {s : Shared}
/-- an object that came since the entry is tracked from here on -/
theorem track {a : Addr} {o : HO} {ob : Obj} {vs : Array Value} (I : Inv X pins σ H s) (hob : s.heap.get? a = some ob) (hdt : ob.data = .fields vs) (na : H a = none) (nL : a ≠ X.env.locals) (nP : ∀ p ∈ X.pn ++ pins, p.1 ≠ a)
    (new : ∀ u, X.s_0.heap.get? a = some u → a ∈ X.ex) (ok : ObjOk X.prog X.w (upd H a o) s.heap a o) : Inv X pins σ (upd H a o) s := by
  have nC : ∀ x c, X.env.cells.lookup x = some c → c ≠ a := fun x c e z => by
    obtain ⟨v, o', h1, h2⟩ := I.cell x c e
    rw [z, hob] at h1
    cases h1
    rw [hdt] at h2
    exact nomatch h2
  have ne : ∀ {b : Addr} {u : HO}, H b = some u → b ≠ a := fun {b u} e => ne_of_none e na
  exact { ok := I.ok, os := I.os, bare := I.bare, loc := I.loc, cell := I.cell, len := I.len
          base := { keep := I.base.keep, slot := I.base.slot, there := I.base.there
                    free := fun b u e n hx => by
                      have nb : b ≠ a := fun z => hx (by rw [z]; exact new u (by rw [← z]; exact e))
                      rw [upd_ne nb]
                      exact I.base.free b u e n hx
                    tups := fun b xs e => by
                      have q := I.base.tups b xs e
                      rw [upd_ne (ne q)]
                      exact q
                    frzs := fun b u v e => by
                      have q := I.base.frzs b u v e
                      rw [upd_ne (ne q)]
                      exact q
                    tbls := fun b ps e => by
                      obtain ⟨more, q⟩ := I.base.tbls b ps e
                      exact ⟨more, by rw [upd_ne (ne q)]; exact q⟩ }
          free := by rw [upd_ne (Ne.symm nL)]; exact I.free
          freeC := fun x c e => by rw [upd_ne (nC x c e)]; exact I.freeC x c e
          pin := fun p hp => by
            obtain ⟨h1, h2, h3, h4, h5⟩ := I.pin p hp
            exact ⟨h1, by rw [upd_ne (nP p hp)]; exact h2, h3, h4, h5⟩
          hok := L2.HOk.laidN I.hok (fun _ _ q => q) na ok }
end
/-- what the clause 'except x as n' wishes, the error kept -/
def wKeep (K : PySem.W.Frag) (c : Value) (i : Nat) (ts : Addr → Value → Option Addr → TS) (Wout : WX) (D : Ends) : WX := fun cls d σ H =>
  ∃ b, PySem.W.exmOne K cls c = some b ∧ (b = true → ∀ a, H a = none → ts a cls d { nx := fun σ' H' => D.nx (σ'.set i none) (upd H' a (exq a cls d)), rt := fun v H' => D.rt v (upd H' a (exq a cls d)), bk := fun σ' H' => D.bk (σ'.set i none) (upd H' a (exq a cls d)), ct := fun σ' H' => D.ct (σ'.set i none) (upd H' a (exq a cls d)) } (σ.set i (some (.ref a))) H) ∧
    (b = false → Wout cls d σ H)
end DQ

set_option Elab.async false
set_option linter.all false
set_option maxRecDepth 100000
set_option maxHeartbeats 2000000
namespace DQ
open PySem PySem.Spec PyProof.Rows L2
section
variable {X : Cx} {x n : Str} {c : Value} {i : Nat} {body suite : List Stmt} {b₀ : Stmt} {np pos pos' : Pos} {tb : WX → TS} {ts : Addr → Value → Option Addr → TS} {Wout : WX}
theorem ps_try_keep (hs : X.stack = X.env :: X.outer) (hf : X.env.frame = some X.env.locals) (hN : X.N.Nodup) (hi : X.N[i]? = some n) (hln : X.env.kindOf n = some .local) (hc : Names X x c) (tk : Takes X Wout)
    (hb : ∀ (W : WX) (pn : List (Addr × Obj)) (xe : Value → Shared → Prop), Takes (X.tr pn xe) W → PassesOwn (model X.prog X.w) X.A X.env xe → PSs (X.tr pn xe) body (tb W))
    (hsu : ∀ (a : Addr) (oe : Obj) (cls : Value) (d : Option Addr) (pn : List (Addr × Obj)), Zc cls d oe → (∃ vs, oe.data = .fields vs) → PSs (X.suite a ((a, oe) :: pn)) (b₀ :: suite) (ts a cls d)) :
    PS X (.Try body [.ExceptHandler (some (.Name x np)) (some n) (b₀ :: suite) pos'] [] [] pos) (fun D σ H => tb (wKeep X.K c i ts Wout D) D σ H) := by
  refine ⟨fun pins s σ H D I h => ?_⟩
  have ok := I.ok
  have hfr : X.A.frames = some (X.env :: X.outer) := by rw [ok.frames, hs]
  refine wpAny_Try_except ?_
  refine wpAny_mono ((hb (wKeep X.K c i ts Wout D) (X.pn ++ pins) (fun e s₁ => wpAny (model X.prog X.w) X.A (noteFrame e X.env) (fun _ s₂ => wpAny (model X.prog X.w) X.A (setFlight e none) (fun _ s₃ =>
    wpAny (model X.prog X.w) X.A (handleBy e X.env [.ExceptHandler (some (.Name x np)) (some n) (b₀ :: suite) pos']) (SP X pins D) X.xe s₃) X.xe s₂) X.xe s₁) (fun u s' out => ?_) PassesOwn.looking).run [] s σ H D (I.toTry _) h) (fun f s1 hsp => ?_) (fun e s1 he => he)
  · obtain ⟨a, B, sI, pins', σ', H', cls, d, rfl, J', nb, up, sky, na, os, ag, b, hb1, hyes, hno⟩ := out
    have J : Inv X pins σ' H' sI := J'.ofTry ok
    show wpAny (model X.prog X.w) X.A (noteFrame (.ref a) X.env) _ _ _
    refine Sky.land Zc.steady hfr hf (by rw [← hs]; exact sky) fun h3 fl3 up3 => ?_
    have J3 : Inv X pins σ' H' { s' with heap := h3 } := J.landed nb fl3.1 (up.trans up3) os ag
    obtain ⟨oe3, vs3, he3, hz3, hd3⟩ := fl3.there
    have away : a ∉ frs (X.env :: X.outer) := fun hm => by
      obtain ⟨_, o', e', hnf⟩ := fl3.2.2.1.mem hm
      rw [he3] at e'
      cases e'
      exact hnf _ hd3
    have nL : a ≠ X.env.locals := fun z => away (List.mem_filterMap.mpr ⟨X.env, List.mem_cons_self, by rw [hf, z]⟩)
    have nF : a ∉ X.fs := fun hm => by
      obtain ⟨e, he, q⟩ := List.mem_filterMap.mp hm
      exact away (List.mem_filterMap.mpr ⟨e, List.mem_cons_of_mem _ he, q⟩)
    have fresh : B.get? a = none := fl3.2.1
    have new : ∀ u, X.s_0.heap.get? a = some u → a ∈ X.ex := fun u e => Classical.byContradiction fun hx => by
      obtain ⟨o', e'⟩ := J.base.there a u e hx
      have := nb a o' e' (by show a ∉ frs X.stack; rw [hs]; exact away)
      rw [fresh] at this
      exact nomatch this
    have nP : ∀ p ∈ X.pn ++ pins, p.1 ≠ a := fun p hp z => by
      obtain ⟨h1, _⟩ := J.pin p hp
      have := nb p.1 p.2 h1 (by show p.1 ∉ frs X.stack; rw [hs, z]; exact away)
      rw [z, fresh] at this
      exact nomatch this
    have S3 := J3.suite he3 hd3 na nL nF
    refine wpAny_handleBy_cons (codeAny_handlers_test ?_) (by intro q; cases q)
    have LT : PySem.W.Looks (model X.prog X.w) h3 (typeOf (.ref a)) cls := fun A Q E s k q => wpAny_typeOf_ref (k _ _ he3) (by rw [hz3.1]; exact q)
    have LM := PySem.W.exm_one (M := model X.prog X.w) (J3.kIn) LT hb1
    have test : ∀ {Q : Value → Shared → Prop} {E : Value → Shared → Prop}, Q c { s' with heap := h3 } → wpAny (model X.prog X.w) (X.A.mark (some (.ref a))) (eval (.Name x np) X.env) Q E { s' with heap := h3 } := fun {Q E} q => by
      obtain ⟨hg, hdbg, hm | ⟨hm, hv, hnn⟩⟩ := hc
      · exact ld_glob (X := X.suite a ((a, oe3) :: (X.pn ++ pins))) S3 hg hm q hdbg
      · exact ld_blt (X := X.suite a ((a, oe3) :: (X.pn ++ pins))) S3 hg hm hv q hnn hdbg
    refine test (LM.here ?_)
    cases b with
    | true =>
      refine codeAny_handlers_suite_as ?_
      refine HandSPX.lands_againZ fl3 fun h4 fl4 up4 => ?_
      have J4 : Inv X pins σ' H' { s' with heap := h4 } := J.landed nb fl4.1 ((up.trans up3).trans up4) os ag
      obtain ⟨oe4, vs4, he4, hz4, hd4⟩ := fl4.there
      have S4 := J4.suite he4 hd4 na nL nF
      refine store_ok (X := X.suite a ((a, oe4) :: (X.pn ++ pins))) (v := .ref a) S4 hN hi (.inl hln) rfl (fun s5 S5 => ?_) (.inr hln)
      refine wpAny_mono ((hsu a oe4 cls d (X.pn ++ pins) hz4 ⟨_, hd4⟩).run [] s5 _ H' _ S5 (hyes rfl a na)) (fun f s6 hsp => ?_) (fun _ _ z => False.elim z)
      have kept : ∀ {σ6 : L2.St} {H6 : Hp} {Q : Shared → Prop}, Inv (X.suite a ((a, oe4) :: (X.pn ++ pins))) [] σ6 H6 s6 → (∀ s7, Inv X pins (σ6.set i none) (upd H6 a (exq a cls d)) s7 → Q s7) →
          wpAny (model X.prog X.w) X.A (do bindName X.env n .none; unbindBehindTheSuite X.env n pos') (fun _ s7 => Q s7) X.xe s6 := fun {σ6 H6 Q} S6 hq => by
        obtain ⟨e6, n6, _⟩ := S6.pin (a, oe4) (List.mem_append_left _ List.mem_cons_self)
        exact gone_ok (track (S6.unsuite ok) e6 hd4 n6 nL nP new (exq_ok e6 hz4 hd4)) hN hi hln hq
      cases f with
      | next =>
        obtain ⟨σ6, H6, S6, q6⟩ := hsp
        exact kept S6 fun s7 J7 => ⟨_, _, J7, q6⟩
      | brk =>
        obtain ⟨σ6, H6, S6, q6⟩ := hsp
        exact kept S6 fun s7 J7 => ⟨_, _, J7, q6⟩
      | cont =>
        obtain ⟨σ6, H6, S6, q6⟩ := hsp
        exact kept S6 fun s7 J7 => ⟨_, _, J7, q6⟩
      | ret u =>
        obtain ⟨v6, σ6, H6, S6, r6, q6⟩ := hsp
        exact kept S6 fun s7 J7 => ⟨_, _, _, J7, r6, q6⟩
    | false =>
      show wpAny _ X.A (handleBy (.ref a) X.env []) _ _ _
      refine wpAny_handleBy_nil ?_
      obtain ⟨k1, k2, k3, oe, vs, T, oT, ts', he, hz, hd, h1, hr⟩ := id fl3
      unfold PySem.passOn
      refine wpAny_bind (wpAny_field he hd h1 ?_)
      rw [if_neg (show ¬ ((Value.ref T == Value.none) = true) from by simp)]
      have fin : wpAny (model X.prog X.w) X.A (setFlight (.ref a) X.env.frame) (fun _ s4 => wpAny (model X.prog X.w) X.A (throw (.ref a) : Sem Flow) (SP X pins D) X.xe s4) X.xe { s' with heap := h3 } := by
        rw [hf]
        refine HandSPX.setFlight_upZ fl3 fun h4 hh4 up4 => wpAny_throw (tk _ _ ?_)
        exact ⟨a, B, sI, pins, σ', H', cls, d, rfl, J, nb, (up.trans up3).trans up4, .inr (.inr (by rw [hs]; exact hh4)), na, os, ag, hno rfl⟩
      first
        | exact wpAny_bind (wpAny_pure (wpAny_bind fin))
        | exact wpAny_bind fin
  · cases f with
    | next =>
      obtain ⟨σ', H', J', q⟩ := hsp
      exact wpAny_execs_nil ⟨σ', H', J'.ofTry ok, q⟩
    | brk =>
      obtain ⟨σ', H', J', q⟩ := hsp
      exact ⟨σ', H', J'.ofTry ok, q⟩
    | cont =>
      obtain ⟨σ', H', J', q⟩ := hsp
      exact ⟨σ', H', J'.ofTry ok, q⟩
    | ret u =>
      obtain ⟨v, σ', H', J', r, q⟩ := hsp
      exact ⟨v, σ', H', J'.ofTry ok, r, q⟩
end
end DQ

set_option Elab.async false
set_option linter.all false
set_option maxRecDepth 100000
set_option maxHeartbeats 1000000
namespace DQ
open PySem PySem.Spec PyProof.Rows L2
/-- a caught error of the class at C, its dict at d, v its value -/
def Caught (H : Hp) (a C : Addr) (v : V) : Prop := ∃ d : Addr, a ≠ d ∧ H a = some (exq a (.ref C) (some d)) ∧ H d = some (.xd [("value", v)])
theorem Caught.same {H H' : Hp} {a C : Addr} {v : V} (m : Caught H a C v) (s : Same H H') : Caught H' a C v := by
  obtain ⟨d, ne, e1, e2⟩ := m
  exact ⟨d, ne, s _ _ e1, s _ _ e2⟩
section
variable {X : Cx} {e : Expr} {pos : Pos}
theorem exq_at {P : Program} {w : World} {H : Hp} {h : Heap} {a : Addr} {cls : Value} {d : Option Addr} (ok : HOk P w H h) (ea : H a = some (exq a cls d)) : ∃ (oe : Obj) (vs : Array Value), h.get? a = some oe ∧ Zc cls d oe ∧ oe.data = .fields vs := by
  have x : ObjOk P w H h a (exq a cls d) := ok a _ ea
  exact x.1
theorem caught_inst {P : Program} {w : World} {H : Hp} {h : Heap} {a C : Addr} {v : V} (ok : HOk P w H h) (m : Caught H a C v) : ∃ ox od, PySem.W.InstAt h a ox C (some od) ∧ ∃ (dx : Addr) (mA : Str → Option Value), h.get? dx = some od ∧ h.Ns1 dx mA ∧ ∀ f, RelO (([("value", v)] : List (Str × V)).lookup f) (mA f) := by
  obtain ⟨d, ne, ea, ed⟩ := m
  obtain ⟨oe, vs, ho, hz, hd⟩ := exq_at ok ea
  have hx : ObjOk P w H h d (.xd [("value", v)]) := ok d _ ed
  obtain ⟨mA, hns, hr⟩ := hx
  have hns' := hns
  obtain ⟨od, es, ep, hod, _⟩ := hns'
  exact ⟨oe, od, ⟨ho, hz.1, by unfold PySem.W.notCls; rw [hd] <;> rfl, by rw [hz.2]; exact hod⟩, d, mA, hod, hns, hr⟩
/-- e.value of a caught error -/
def tCaught (K : PySem.W.Frag) (te : TE) : TE := fun σ H Q => te σ H fun x H1 => ∃ (a C : Addr) (v : V), x = .ref a ∧ Caught H1 a C v ∧ XfC K C ∧ PySem.W.findIn K (.ref C) ("value" : Str) = some none ∧ Q v H1
theorem pe_caught {te : TE} (he : PE X e te) (hb : attributeBase e "value" X.env (eval e X.env) = eval e X.env := by rfl) : PE X (.Attribute e "value" pos) (tCaught X.K te) := ⟨fun pins s σ H Q I h => by
  refine attr_of hb (thn (he.run pins s σ H _ I h) fun u s1 h1 => ?_)
  obtain ⟨x, H1, I1, rx, a, C, v, rfl, m, T, hno, q⟩ := h1
  obtain rfl : u = Value.ref a := rx
  obtain ⟨d, ne, ea, ed⟩ := m
  obtain ⟨oe, vs, ho, hz, hd⟩ := exq_at I1.hok ea
  have hx : ObjOk X.prog X.w H1 s1.heap d (.xd [("value", v)]) := I1.hok d _ ed
  obtain ⟨mA, hns, hr⟩ := hx
  obtain ⟨od, hod, hl⟩ := lookIn_ns hns
  have l : List.lookup ("value" : Str) [(("value" : Str), v)] = some v := by simp [List.lookup]
  obtain ⟨u, hu, ru⟩ := RelO.some_of (v := v) (o := mA "value") (by rw [← l]; exact hr "value")
  exact HandSPX.exc_get I1.kIn ⟨ho, hz.1, by unfold PySem.W.notCls; rw [hd] <;> rfl, by rw [hz.2]; exact hod⟩ T.ga T.gg T.exC (PySem.W.findObj_own T.hdC hno rfl (by rw [hl, hu])) (handed_of ru) ⟨v, H1, I1.tok _, ru, q⟩⟩
/-- isinstance(e, c) of a caught error -/
def rCaughtIs (K : PySem.W.Frag) : List V → Hp → VK → Prop := fun xs H Q => ∃ (a C : Addr) (v c : V) (u : Value) (b : Bool), xs = [.ref a, c] ∧ Caught H a C v ∧ ErrC K C ∧ ClsV c u ∧ PySem.W.kitOne K (.ref C) u = some b ∧ Q (.bl b) H
theorem call_caughtIs : CallR X (.builtin "isinstance") (rCaughtIs X.K) := by
  intro pins s σ H xs us Q I r h
  obtain ⟨a, C, v, c, u, b, rfl, m, T, k, e, q⟩ := h
  obtain ⟨u1, u2, rfl, r1, r2⟩ := vals2 r
  obtain rfl : u1 = Value.ref a := r1
  obtain rfl := k.eq r2
  obtain ⟨ox, od, J, _⟩ := caught_inst I.hok m
  exact PySem.W.kia_one (PySem.W.kitx_exc T.cls T.ga T.gg T.sub T.ca T.cg T.ct T.mo) I.kIn J e (fun z => nomatch z) fun tk => ⟨.bl b, H, I.tok tk, rfl, q⟩
end
end DQ

set_option Elab.async false
set_option linter.all false
set_option maxRecDepth 100000
set_option maxHeartbeats 1000000
namespace DQ
open PySem PySem.Spec PyProof.Rows L2
/-! ### repr of any data, empty dicts among it -/
def rReprZ (K : PySem.W.Frag) : List V → Hp → VK → Prop := fun xs H Q => ∃ (v : V) (d : PyData), xs = [v] ∧ Dp K H v d ∧ ShowsZ d ∧ Q (.str d.shown) H
theorem call_reprZ {X : Cx} (hu : X.A.units + 65 < cLine) (hg : X.A.guards = some []) : CallR X (.builtin "repr") (rReprZ X.K) := by
  intro pins s σ H xs us Q I r h
  obtain ⟨v, d, rfl, hd, ⟨sh, dep, sz⟩, q⟩ := h
  cases hd with
  | non => exact call_reprV hu hg pins s σ H _ us Q I r ⟨_, _, rfl, .non, ⟨sh, rfl, dep, sz⟩, q⟩
  | bl b => exact call_reprV hu hg pins s σ H _ us Q I r ⟨_, _, rfl, .bl b, ⟨sh, rfl, dep, sz⟩, q⟩
  | int i => exact call_reprV hu hg pins s σ H _ us Q I r ⟨_, _, rfl, .int i, ⟨sh, rfl, dep, sz⟩, q⟩
  | str x => exact call_reprV hu hg pins s σ H _ us Q I r ⟨_, _, rfl, .str x, ⟨sh, rfl, dep, sz⟩, q⟩
  | tup hs ha => exact call_reprT hu hg pins s σ H _ us Q I r ⟨_, _, rfl, .tup hs ha, ⟨sh, dep, sz⟩, q⟩
  | lst hs ha =>
    rename_i a xs ds
    obtain ⟨u, rfl, ru⟩ := L2.vals1 r
    obtain ⟨as, rd⟩ := Dp.reads I (.list ds) _ _ (.lst hs ha) ru
    obtain rfl : u = Value.ref a := ru
    obtain ⟨its, rv, ⟨o, n, ho, hc, _, hd⟩, _⟩ := I.list hs
    have sz' : (listText (PyData.shownAll ds)).length ≤ sizeLine := by simpa only [PyData.shown] using sz
    obtain ⟨bs, hb, hk⟩ := dpAll_shown I ds _ its ha rv (by simpa only [PyData.showable] using sh) fun t ht => Nat.le_trans (listText_mem_le ht) sz'
    have hna := not_mem_of_deeper rd (by simp only [PyData.depth]; omega) hb
    have dp : PyData.depthAll ds + 1 ≤ 64 := by simpa only [PyData.depth] using dep
    simp only [PyData.shown] at q
    cases its with
    | nil =>
      cases rv
      cases ha
      simp only [PyData.shownAll, listText_nil] at q
      exact call_repr_slot (by omega) ⟨o, ho, hc⟩ F.slot_list_repr.toG (call_list_repr_empty ⟨o, ho, hc⟩ ho hd ⟨_, _, rfl, ⟨.str _, H, I.tok _, ⟨_, rfl⟩, q⟩⟩)
    | cons y ys =>
      refine call_repr_slot (by omega) ⟨o, ho, hc⟩ F.slot_list_repr.toG (call_list_reprK ho hc hd hna (by simpa using hk.length_eq) (fun i z e => hk.item i z (by simpa using e)) hg (fun b _ => Clear.nil b) (by show X.A.units + 1 + _ < _; omega) (fun _ _ e => e) (fun h' u tk k => ⟨_, _, rfl, ?_⟩) sz')
      exact ⟨.str _, H, I.kept fun b o e => k b o e, ⟨u, rfl⟩, q⟩
  | dct hs =>
    obtain ⟨u, rfl, ru⟩ := L2.vals1 r
    obtain rfl : u = Value.ref _ := ru
    obtain ⟨_, hsys, vs, kv, o, es, ep, ho, ex, hd, _, ps, _⟩ := L2.dk_of I.hok hs
    have e0 : vs = [] := by
      cases kv
      rfl
    subst e0
    have e1 : es.toList = [] := List.length_eq_zero_iff.mp (by simpa using PySem.Pairs.length ps)
    simp only [PyData.shown, PyData.shownKv] at q
    refine call_repr_slot (by omega) ⟨o, ho, ex.1⟩ F.slot_dict_repr (call_dict_reprK (as := []) (d := 0) ho ex.1 hd hsys (by simp) (by rw [e1]; exact .nil) hg (fun b _ => Clear.nil b) (by show X.A.units + 1 + _ < _; omega) (fun _ _ e => e) (fun h' u tk k => ⟨_, _, rfl, ?_⟩) (by decide))
    exact ⟨.str _, H, I.kept fun b o e => k b o e, ⟨u, rfl⟩, q⟩
end DQ

set_option Elab.async false
set_option linter.all false
set_option maxRecDepth 100000
set_option maxHeartbeats 2000000
namespace DQ
open PySem PySem.Spec PyProof.Rows L2
abbrev sAsked : Stmt := topS 58
abbrev sCaught : Stmt := topS 59
abbrev NCa : List Str := ["which", "one", "other", "error", "kept", "e", "kinds"]
theorem scAsked : FnScope ["which", "one", "other"] ["which", "one", "other"] (defScope sAsked) := ⟨rfl, rfl, rfl, by decide +kernel, rfl, by decide +kernel, by decide +kernel⟩
theorem scCaught : FnScope NCa ["which", "one", "other"] (defScope sCaught) := ⟨rfl, rfl, rfl, by decide +kernel, rfl, by decide +kernel, by decide +kernel⟩
theorem eq_int (i j : Int) : decide (V.int i = V.int j) = decide (i = j) := by simp
theorem callR_or {X : Cx} {f : Value} {r r' : List V → Hp → VK → Prop} (h : CallR X f r) (h' : CallR X f r') : CallR X f (fun xs H Q => r xs H Q ∨ r' xs H Q) := fun pins s σ H xs us Q I rel q => q.elim (h pins s σ H xs us Q I rel) (h' pins s σ H xs us Q I rel)
/-- the call that a number chooses -/
def pickSp (s0 s1 s2 s3 s4 : Sp) (n : Int) : Sp := if n = 0 then s0 else if n = 1 then s1 else if n = 2 then s2 else if n = 3 then s3 else s4
section
variable {P : Program} {w : World} {K : PySem.W.Frag} {mg : Str → Option Value} {base : Heap}
def spAskOf (s0 s1 s2 s3 s4 : Sp) : Sp := fun vs H Q E => ∃ (n : Int) (v w : V), vs = [.int n, v, w] ∧ pickSp s0 s1 s2 s3 s4 n [v, w] H Q E
theorem ok_asked {s0 s1 s2 s3 s4 : Sp} {f f0 f1 f2 f3 f4 : Addr} {fd d0 d1 d2 d3 d4 : FuncData} (F : Fun K "_law_asked" "_law_asked" sAsked f fd)
    (G0 : FnOk P w K mg base (L2.CX P w) 8 f0 d0 ["store", "fact"] s0) (b0 : Binds K d0 ["store", "fact"] []) (k0 : PySem.W.keepIn K (.ref f0) = true) (m0 : mg "with_fact" = some (.ref f0))
    (G1 : FnOk P w K mg base (L2.CX P w) 8 f1 d1 ["store", "fact"] s1) (b1 : Binds K d1 ["store", "fact"] []) (k1 : PySem.W.keepIn K (.ref f1) = true) (m1 : mg "without_fact" = some (.ref f1))
    (G2 : FnOk P w K mg base (L2.CX P w) 8 f2 d2 ["store", "item"] s2) (b2 : Binds K d2 ["store", "item"] []) (k2 : PySem.W.keepIn K (.ref f2) = true) (m2 : mg "with_item" = some (.ref f2))
    (G3 : FnOk P w K mg base (L2.CX P w) 8 f3 d3 ["store", "item"] s3) (b3 : Binds K d3 ["store", "item"] []) (k3 : PySem.W.keepIn K (.ref f3) = true) (m3 : mg "without_item" = some (.ref f3))
    (G4 : FnOk P w K mg base (L2.CX P w) 8 f4 d4 ["store", "edits"] s4) (b4 : Binds K d4 ["store", "edits"] []) (k4 : PySem.W.keepIn K (.ref f4) = true) (m4 : mg "done" = some (.ref f4)) : FnOk P w K mg base (L2.CX P w) 9 f fd ["which", "one", "other"] (spAskOf s0 s1 s2 s3 s4) := by
  refine F.okX scAsked (fun vs H Q E h => ?_) (fun cdv A outer s H vs Q E hr h => ?_)
  · obtain ⟨_, _, _, rfl, _⟩ := h
    rfl
  obtain ⟨n, v, wv, rfl, h⟩ := h
  refine ⟨_, pss_cons (ps_if (pt_cmpR op_eq (pv 0) pe_int (nomark _)) (pss_one (ps_ret (pe_callS G0 (hr.mono (by decide)) rfl m0 k0 b0 (fun σ => passAt (takes_of rfl rfl rfl rfl) σ) (pa_cons (pv 1) (pa_cons (pv 2) pa_nil))))) pss_nil)
    (pss_cons (ps_if (pt_cmpR op_eq (pv 0) pe_int (nomark _)) (pss_one (ps_ret (pe_callS G1 (hr.mono (by decide)) rfl m1 k1 b1 (fun σ => passAt (takes_of rfl rfl rfl rfl) σ) (pa_cons (pv 1) (pa_cons (pv 2) pa_nil))))) pss_nil)
    (pss_cons (ps_if (pt_cmpR op_eq (pv 0) pe_int (nomark _)) (pss_one (ps_ret (pe_callS G2 (hr.mono (by decide)) rfl m2 k2 b2 (fun σ => passAt (takes_of rfl rfl rfl rfl) σ) (pa_cons (pv 1) (pa_cons (pv 2) pa_nil))))) pss_nil)
    (pss_one (ps_ret (pe_ifExp (pt_cmpR op_eq (pv 0) pe_int (nomark _)) (pe_callS G3 (hr.mono (by decide)) rfl m3 k3 b3 (fun σ => passAt (takes_of rfl rfl rfl rfl) σ) (pa_cons (pv 1) (pa_cons (pv 2) pa_nil))) (pe_callS G4 (hr.mono (by decide)) rfl m4 k4 b4 (fun σ => passAt (takes_of rfl rfl rfl rfl) σ) (pa_cons (pv 1) (pa_cons (pv 2) pa_nil)))))))), ?_⟩
  unfold pickSp at h
  refine ⟨_, rfl, rfl, _, rfl, ?_⟩
  rw [eq_int]
  refine ite2 (fun c => ?_) fun c => ?_
  · rw [if_pos (of_decide_eq_true c)] at h
    exact ⟨_, rfl, _, rfl, h⟩
  rw [if_neg (by simpa using c)] at h
  refine ⟨_, rfl, rfl, _, rfl, ?_⟩
  rw [eq_int]
  refine ite2 (fun c => ?_) fun c => ?_
  · rw [if_pos (of_decide_eq_true c)] at h
    exact ⟨_, rfl, _, rfl, h⟩
  rw [if_neg (by simpa using c)] at h
  refine ⟨_, rfl, rfl, _, rfl, ?_⟩
  rw [eq_int]
  refine ite2 (fun c => ?_) fun c => ?_
  · rw [if_pos (of_decide_eq_true c)] at h
    exact ⟨_, rfl, _, rfl, h⟩
  rw [if_neg (by simpa using c)] at h
  refine ⟨_, rfl, rfl, _, rfl, ?_⟩
  rw [eq_int]
  refine ite2 (fun c => ?_) fun c => ?_
  · rw [if_pos (of_decide_eq_true c)] at h
    exact ⟨_, rfl, _, rfl, h⟩
  rw [if_neg (by simpa using c)] at h
  exact ⟨_, rfl, _, rfl, h⟩
/-- the flags of an error's class -/
def flags (C : Option Addr) (C0 CF CI CL CT : Addr) : List V := [.bl (decide (C = some C0)), .bl (decide (C = some CF)), .bl (decide (C = some CI)), .bl (decide (C = some CL)), .bl (decide (C = some CT))]
/-- how the call ends: an error of the class at C with a value, or none -/
def EndsSo (sp : Sp) (vs : List V) (H : Hp) (o : Option (Addr × V)) : Prop := ∀ (H1 : Hp) (Q : VK) (E : XK), Same H H1 → (∀ C bad, o = some (C, bad) → ∀ H2, Same H1 H2 → Throws E C bad H2) → (o = none → ∀ x H2, Same H1 H2 → Q x H2) → sp vs H1 Q E
def spCaughtOf (K : PySem.W.Frag) (sp : Sp) (C0 CF CI CL CT : Addr) : Sp := fun vs H Q _ => ∃ (n v w : V) (d1 d2 : PyData) (o : Option (Addr × V)), vs = [n, v, w] ∧ Dp K H v d1 ∧ Dp K H w d2 ∧ ShowsZ (.list [d1, d2]) ∧ (∀ C bad, o = some (C, bad) → C ∈ [C0, CF, CI, CL, CT]) ∧ EndsSo sp [n, v, w] H o ∧
  ∀ (T L : Addr) (H' : Hp), Same H H' → H' T = some (.tup [.ref L, match o with | some (_, bad) => bad | none => .non]) → H' L = some (.lst (flags (o.map (·.1)) C0 CF CI CL CT)) → Q (.ref T) H'
end
end DQ

set_option Elab.async false
set_option linter.all false
set_option maxRecDepth 100000
set_option maxHeartbeats 2000000
namespace DQ
open PySem PySem.Spec PyProof.Rows L2
/-- what the variable holds behind the try -/
def HeldE (H : Hp) (o : Option (Addr × V)) (ev : V) : Prop := match o with
  | none => ev = .non
  | some (C, bad) => ∃ a, ev = .ref a ∧ Caught H a C bad
theorem HeldE.same {H H' : Hp} {o : Option (Addr × V)} {ev : V} (h : HeldE H o ev) (s : Same H H') : HeldE H' o ev := by
  cases o with
  | none => exact h
  | some p => obtain ⟨a, e, c⟩ := h; exact ⟨a, e, c.same s⟩
def rIsBoth (K : PySem.W.Frag) : List V → Hp → VK → Prop := fun xs H Q => rCaughtIs K xs H Q ∨ rIsi K xs H Q
theorem call_isBoth {X : Cx} {K : PySem.W.Frag} (hk : X.K = K) : CallR X (.builtin "isinstance") (rIsBoth K) := by
  subst hk
  exact callR_or call_caughtIs call_isi
theorem is_flag {K : PySem.W.Frag} {H : Hp} {o : Option (Addr × V)} {ev : V} {D : Addr} {Q : VK} (h : HeldE H o ev) (er : ∀ C bad, o = some (C, bad) → ErrC K C ∧ PySem.W.kitOne K (.ref C) (.ref D) = some (decide (C = D))) (kn : PySem.W.kitOne K (.type "NoneType") (.ref D) = some false)
    (q : Q (.bl (decide (o.map (·.1) = some D))) H) : rIsBoth K [ev, .ref D] H Q := by
  cases o with
  | none =>
    cases h
    exact .inr ⟨.non, .ref D, _, .ref D, false, rfl, .own D, dp_ty .non, kn, q⟩
  | some p =>
    obtain ⟨C, bad⟩ := p
    obtain ⟨a, rfl, c⟩ := h
    obtain ⟨e, k⟩ := er C bad rfl
    refine .inl ⟨a, C, bad, .ref D, .ref D, _, rfl, c, e, .own D, k, ?_⟩
    have z : decide (C = D) = decide ((some (C, bad)).map (·.1) = some D) := by simp
    rw [z]
    exact q
theorem iteF' {b : Bool} {T1 T2 : Prop} (h : b = false) (t : T2) : if b = true then T1 else T2 := by rw [h]; exact t
theorem iteT' {b : Bool} {T1 T2 : Prop} (h : b = true) (t : T1) : if b = true then T1 else T2 := by rw [h]; exact t
theorem try_cut {t rest : TS} {D : Ends} {σ : L2.St} {H : Hp} (P : L2.St → Hp → Prop) (h1 : ∀ D' : Ends, (∀ σ' H', P σ' H' → D'.nx σ' H') → t D' σ H) (h2 : ∀ σ' H', P σ' H' → rest D σ' H') : tSeq t rest D σ H := h1 _ h2
section
variable {P : Program} {w : World} {K : PySem.W.Frag} {mg : Str → Option Value} {base : Heap}
theorem ok_caught {sp : Sp} {f f1 C0 CF CI CL CT S : Addr} {fd d1 : FuncData} (F : Fun K "_law_caught" "_law_caught" sCaught f fd)
    (G1 : FnOk P w K mg base (L2.CX P w) 9 f1 d1 ["which", "one", "other"] sp) (b1 : Binds K d1 ["which", "one", "other"] []) (k1 : PySem.W.keepIn K (.ref f1) = true) (m1 : mg "_law_asked" = some (.ref f1))
    (U0 : ErrUse P w K mg base "InvalidStore" C0) (UF : ErrUse P w K mg base "InvalidFact" CF) (UI : ErrUse P w K mg base "InvalidItem" CI) (UL : ErrUse P w K mg base "InvalidList" CL) (UT : ErrUse P w K mg base "TooMany" CT) (mS : mg "StoreError" = some (.ref S))
    (ex : ∀ C ∈ [C0, CF, CI, CL, CT], PySem.W.exmOne K (.ref C) (.ref S) = some true) (kk : ∀ C ∈ [C0, CF, CI, CL, CT], ∀ D ∈ [C0, CF, CI, CL, CT], PySem.W.kitOne K (.ref C) (.ref D) = some (decide (C = D))) (kn : ∀ D ∈ [C0, CF, CI, CL, CT], PySem.W.kitOne K (.type "NoneType") (.ref D) = some false)
    (mR : mg "repr" = none) (mI : mg "isinstance" = none) : FnG P w K mg base CX0 10 f fd ["which", "one", "other"] (spCaughtOf K sp C0 CF CI CL CT) := by
  refine fun_okG F scCaught (fun vs H Q E h => ?_) (fun cdv A outer s H vs Q E hr hG h => ?_)
  · obtain ⟨_, _, _, _, _, _, rfl, _⟩ := h
    rfl
  obtain ⟨n, v, wv, d1', d2', o, rfl, hd1, hd2, sh, inC, ends, q⟩ := h
  have nd := scCaught.nd
  refine ⟨_, pss_cons (ps_par (i := 3) (j := 4) rfl nd rfl rfl (by decide) rfl rfl (pa_cons pe_non (pa_cons (pe_callB (call_reprZ (room65 hr) hG) (by rfl) mR (by decide +kernel) (pa_cons (pe_lst (pa_cons (pv 1) (pa_cons (pv 2) pa_nil))) pa_nil)) pa_nil)) (by rfl))
    (pss_cons (ps_try_keep (i := 5) (Wout := fun _ _ _ _ => False) (tb := fun W => tDrop _) rfl rfl nd rfl (by rfl) ⟨by rfl, by decide, .inl mS⟩ takes0
      (fun W pn xe tk po => pss_one (ps_expr (pe_callS (E := WE W) G1 (hr.mono (by decide)) rfl m1 k1 b1 (fun σ => passAt tk σ) (pa_cons (pv 0) (pa_cons (pv 1) (pa_cons (pv 2) pa_nil))))))
      (fun a oe cls d pn z hv => pss_one (ps_set (i := 3) nd rfl (.inl rfl) (pv 5))))
    (pss_cons (ps_if (pt_cmpR op_ne (pe_callB (call_reprZ (room65 hr) hG) (by rfl) mR (by decide +kernel) (pa_cons (pe_lst (pa_cons (pv 1) (pa_cons (pv 2) pa_nil))) pa_nil)) (pv 4) (nomark _)) (pss_one (ps_ret (pe_tup (pa_cons (pe_lst pa_nil) (pa_cons pe_non pa_nil))))) pss_nil)
    (pss_cons (ps_set (i := 6) nd rfl (.inl rfl) (pe_lst (pa_cons (pe_callB (r := rIsBoth K) (call_isBoth rfl) (by rfl) mI (by decide +kernel) (pa_cons (pv 3) (pa_cons (pe_glob (v := .ref C0) (by rfl) U0.g rfl) pa_nil)))
      (pa_cons (pe_callB (r := rIsBoth K) (call_isBoth rfl) (by rfl) mI (by decide +kernel) (pa_cons (pv 3) (pa_cons (pe_glob (v := .ref CF) (by rfl) UF.g rfl) pa_nil)))
      (pa_cons (pe_callB (r := rIsBoth K) (call_isBoth rfl) (by rfl) mI (by decide +kernel) (pa_cons (pv 3) (pa_cons (pe_glob (v := .ref CI) (by rfl) UI.g rfl) pa_nil)))
      (pa_cons (pe_callB (r := rIsBoth K) (call_isBoth rfl) (by rfl) mI (by decide +kernel) (pa_cons (pv 3) (pa_cons (pe_glob (v := .ref CL) (by rfl) UL.g rfl) pa_nil))) pa_nil))))))
    (pss_one (ps_ret (pe_tup (pa_cons (pe_op op_cat (pv 6) (pe_lst (pa_cons (pe_callB (r := rIsBoth K) (call_isBoth rfl) (by rfl) mI (by decide +kernel) (pa_cons (pv 3) (pa_cons (pe_glob (v := .ref CT) (by rfl) UT.g rfl) pa_nil))) pa_nil)))
      (pa_cons (pe_ifExp (pt_cmpR op_isN (pv 3) pe_non (nomark _)) pe_non (pe_caught (pv 3))) pa_nil)))))))), ?_⟩
  have er : ∀ C bad, o = some (C, bad) → ErrC K C ∧ XfC K C ∧ PySem.W.findIn K (.ref C) ("value" : Str) = some none := fun C bad e => by
    have z := inC C bad e
    simp only [List.mem_cons, List.not_mem_nil, or_false] at z
    rcases z with rfl | rfl | rfl | rfl | rfl
    · exact ⟨U0.er, U0.xf, U0.noV⟩
    · exact ⟨UF.er, UF.xf, UF.noV⟩
    · exact ⟨UI.er, UI.xf, UI.noV⟩
    · exact ⟨UL.er, UL.xf, UL.noV⟩
    · exact ⟨UT.er, UT.xf, UT.noV⟩
  refine ⟨_, rfl, _, rfl, by show 2 ≤ sizeLine; decide, fun p1 n1 => ?_⟩
  have g1 := same_new n1 (o := .lst [v, wv])
  have f1 : upd H p1 (.lst [v, wv]) p1 = some (.lst [v, wv]) := upd_same
  generalize upd H p1 (.lst [v, wv]) = H1 at g1 f1 ⊢
  refine ⟨.ref p1, .list [d1', d2'], rfl, .lst (SqL.of f1) (.cons (dp_same g1 _ _ hd1) (.cons (dp_same g1 _ _ hd2) .nil)), sh, _, _, rfl, ?_⟩
  generalize hz : (PyData.list [d1', d2']).shown = z
  dsimp only
  refine try_cut (fun σ' H' => ∃ ev, σ' = [some n, some v, some wv, some ev, some (.str z), none, none] ∧ Same H H' ∧ HeldE H' o ev) (fun D' hD => ?_) (fun σ' H2 hP => ?_)
  · refine ⟨_, rfl, _, rfl, _, rfl, ends H1 _ _ g1 (fun C bad e H2 s2 d H3 s3 nd3 e3 => ⟨true, ex C (inC C bad e), fun _ a na => ?_, fun h => nomatch h⟩) fun e x H2 s2 => ?_⟩
    · have hne : a ≠ d := fun z => by
        rw [z, e3] at na
        exact nomatch na
      refine ⟨_, rfl, hD _ _ ⟨.ref a, rfl, ((g1.trans s2).trans s3).trans (same_new na), ?_⟩⟩
      rw [e]
      exact ⟨a, rfl, d, hne, upd_same, by rw [upd_ne hne.symm]; exact e3⟩
    · refine hD _ _ ⟨.non, rfl, g1.trans s2, ?_⟩
      rw [e]
      rfl
  obtain ⟨ev, rfl, s2, he⟩ := hP
  have fl : ∀ {H' : Hp} {D : Addr} {Q : VK}, D ∈ [C0, CF, CI, CL, CT] → HeldE H' o ev → Q (.bl (decide (o.map (·.1) = some D))) H' → rIsBoth K [ev, .ref D] H' Q := fun hD h q => is_flag h (fun C bad e => ⟨(er C bad e).1, kk C (inC C bad e) _ hD⟩) (kn _ hD) q
  refine ⟨_, rfl, _, rfl, by show 2 ≤ sizeLine; decide, fun p3 n3 => ?_⟩
  have g3 := same_new n3 (o := .lst [v, wv])
  have f3 : upd H2 p3 (.lst [v, wv]) p3 = some (.lst [v, wv]) := upd_same
  generalize upd H2 p3 (.lst [v, wv]) = H3 at g3 f3 ⊢
  have s3 := s2.trans g3
  have he3 := he.same g3
  refine ⟨.ref p3, .list [d1', d2'], rfl, .lst (SqL.of f3) (.cons (dp_same s3 _ _ hd1) (.cons (dp_same s3 _ _ hd2) .nil)), sh, _, rfl, ?_⟩
  rw [hz]
  refine ⟨rfl, _, rfl, ite2 (fun c => absurd c (by simp)) fun _ => ?_⟩
  refine ⟨_, rfl, fl (by simp) he3 ⟨_, rfl, fl (by simp) he3 ⟨_, rfl, fl (by simp) he3 ⟨_, rfl, fl (by simp) he3 ?_⟩⟩⟩⟩
  refine nil_read ⟨by show 4 ≤ sizeLine; decide, fun L nL => ?_⟩
  generalize hks : [V.bl (decide (o.map (·.1) = some C0)), .bl (decide (o.map (·.1) = some CF)), .bl (decide (o.map (·.1) = some CI)), .bl (decide (o.map (·.1) = some CL))] = ks
  have lks : ks.length = 4 := by rw [← hks]; rfl
  have g4 := same_new nL (o := .lst ks)
  have f4 : upd H3 L (.lst ks) L = some (.lst ks) := upd_same
  generalize upd H3 L (.lst ks) = H4 at g4 f4 ⊢
  have he4 := he3.same g4
  refine ⟨_, rfl, _, rfl, fl (by simp) he4 (nil_read ⟨by show 1 ≤ sizeLine; decide, fun L2 nL2 => ?_⟩)⟩
  have g5 := same_new nL2 (o := .lst [V.bl (decide (o.map (·.1) = some CT))])
  have f5 : upd H4 L2 (.lst [V.bl (decide (o.map (·.1) = some CT))]) L2 = some (.lst [V.bl (decide (o.map (·.1) = some CT))]) := upd_same
  generalize upd H4 L2 (.lst [V.bl (decide (o.map (·.1) = some CT))]) = H5 at g5 f5 ⊢
  refine ⟨L, L2, ks, _, rfl, rfl, g5 _ _ f4, f5, Nat.le_trans (show ks.length + 1 ≤ 5 by omega) (by decide), fun L3 nL3 => ?_⟩
  have eks : ks ++ [V.bl (decide (o.map (·.1) = some CT))] = flags (o.map (·.1)) C0 CF CI CL CT := by rw [← hks]; rfl
  rw [eks]
  have g6 := same_new nL3 (o := .lst (flags (o.map (·.1)) C0 CF CI CL CT))
  have f6 : upd H5 L3 (.lst (flags (o.map (·.1)) C0 CF CI CL CT)) L3 = some (.lst (flags (o.map (·.1)) C0 CF CI CL CT)) := upd_same
  generalize upd H5 L3 (.lst (flags (o.map (·.1)) C0 CF CI CL CT)) = H6 at g6 f6 ⊢
  have s6 : Same H H6 := ((s3.trans g4).trans g5).trans g6
  have he6 := (he4.same g5).same g6
  cases o with
  | none =>
    cases he6
    refine ⟨_, rfl, rfl, _, rfl, iteT' (by simp) ⟨by show 2 ≤ sizeLine; decide, fun T nT => ?_⟩⟩
    have g7 := same_new nT (o := .tup [.ref L3, .non])
    exact q T L3 _ (s6.trans g7) upd_same (g7 _ _ f6)
  | some p =>
    obtain ⟨C, bad⟩ := p
    obtain ⟨a, rfl, cau⟩ := he6
    obtain ⟨_, xf, nv⟩ := er C bad rfl
    refine ⟨_, rfl, rfl, _, rfl, iteF' (by simp) ⟨_, rfl, a, C, bad, rfl, cau, xf, nv, nil_read ⟨by show 2 ≤ sizeLine; decide, fun T nT => ?_⟩⟩⟩
    have g7 := same_new nT (o := .tup [.ref L3, bad])
    exact q T L3 _ (s6.trans g7) upd_same (g7 _ _ f6)
end
end DQ

set_option Elab.async false
set_option linter.all false
set_option maxRecDepth 100000
set_option maxHeartbeats 1000000
namespace DQ
open PySem PySem.Spec PyProof.Rows L2
abbrev sOnly : Stmt := topS 60
theorem scOnly : FnScope ["told", "place", "bad", "at"] ["told", "place", "bad"] (defScope sOnly) := ⟨rfl, rfl, rfl, by decide +kernel, rfl, by decide +kernel, by decide +kernel⟩
theorem dp_bls {K : PySem.W.Frag} {H : Hp} : ∀ bs : List Bool, DpAll K H (bs.map V.bl) (bs.map PyData.bool)
  | [] => .nil
  | b :: r => .cons (.bl b) (dp_bls r)
def at5 (k : Nat) : List Bool := (List.range 5).map fun i => decide (i = k)
theorem sm_bls (bs : List Bool) (l : bs.length ≤ 10) : Sm 1 10 (.list (bs.map PyData.bool)) := (SmAll.list (k := 0) (n := 0) (m := 10) (smAll fun d hd => by
  obtain ⟨b, _, rfl⟩ := List.mem_map.mp hd
  exact sm_bool b) (by rw [List.length_map]; exact l)).mono (by decide) (by decide)
section
variable {P : Program} {w : World} {K : PySem.W.Frag} {mg : Str → Option Value} {base : Heap}
def spOnly (K : PySem.W.Frag) : Sp := fun vs H Q _ => ∃ (T L : Addr) (x bad : V) (d : PyData) (k : Nat), vs = [.ref T, .int (k : Nat), bad] ∧ H T = some (.tup [.ref L, x]) ∧ H L = some (.lst ((at5 k).map V.bl)) ∧ Dp K H x d ∧ Dp K H bad d ∧ ShowsZ d ∧ ∀ H', Same H H' → Q (.bl true) H'
theorem ok_only {f : Addr} {fd : FuncData} (F : Fun K "_law_only" "_law_only" sOnly f fd) (mRange : mg "range" = none) (mR : mg "repr" = none) : FnG P w K mg base CX0 1 f fd ["told", "place", "bad"] (spOnly K) := by
  refine fun_okG F scOnly (fun vs H Q E h => ?_) (fun cdv A outer s H vs Q E hr hG h => ?_)
  · obtain ⟨_, _, _, _, _, _, rfl, _⟩ := h
    rfl
  obtain ⟨T, L, x, bad, d, k, rfl, hT, hL, hx, hb, sh, q⟩ := h
  have nd := scOnly.nd
  refine ⟨_, pss_one (ps_ret (pe_and (pe_cmpR (op_eqD hr.units) (pe_ix (r := rIxT K) ix_tup (pv 0) pe_int (fun _ _ => rfl)) (pe_lc (own := [("at", 3)]) (g := gName 3) (tt := tYes) rfl nd (pi_range1 (by rfl) mRange (pa_cons pe_int pa_nil)) (blkOk_by (own := [("at", 3)]) (N := ["told", "place", "bad", "at"]) (sc := defScope sOnly) (by decide +kernel)) (fun _ _ _ _ _ => pg_name (i := 3) nd rfl (Or.inl rfl)) (fun _ _ _ _ _ => pts_nil)
      (fun _ _ _ _ _ => pe_cmpR op_eq (pv 3) (pv 1) (by rfl))) (by rfl))
    (pe_one (pe_cmpR op_eq (pe_callB (call_reprZ (room65 hr) hG) (by rfl) mR (by decide +kernel) (pa_cons (pe_ix (r := rIxT K) ix_tup (pv 0) pe_int (fun _ _ => rfl)) pa_nil)) (pe_callB (call_reprZ (room65 hr) hG) (by rfl) mR (by decide +kernel) (pa_cons (pv 2) pa_nil)) (by rfl))))), ?_⟩
  refine ⟨_, rfl, T, _, 0, .ref L, rfl, rfl, .inl (.inl hT), atI_nat (j := 0) rfl, ?_⟩
  refine ⟨5, rfl, by decide, by decide, fun D nD => lc_bools (walk_range (lo := 0) (n := (5 : Int).toNat)) (at5 k) (by simp [at5]) (by decide) nD (fun _ _ => trivial)
    (fun j H' v H'' y => by rw [y.1]; exact fun _ _ h => h) (fun j v H' H'' b hj hb s' y R hR => ?_) (fun H1 s1 e1 => ?_) (fun _ _ _ _ _ m h => m _ _ h)⟩
  · obtain ⟨rfl, rfl⟩ := y
    have hj : j < 5 := hj
    have e : b = decide (V.int (0 + (j : Nat)) = V.int (k : Nat)) := by
      unfold at5 at hb
      rw [List.getElem?_map, List.getElem?_range hj] at hb
      injection hb with hb
      rw [← hb, eq_int]
      exact decide_eq_decide.mpr ⟨fun h => by omega, fun h => by omega⟩
    refine ⟨rfl, _, rfl, _, rfl, rfl, ?_⟩
    rw [← e]
    exact hR H'' fun _ _ h => h
  have sm := sm_bls (at5 k) (by simp [at5])
  refine ⟨.list ((at5 k).map PyData.bool), .list ((at5 k).map PyData.bool), .lst (SqL.of (s1 _ _ hL)) (dp_bls _), .lst (SqL.of e1) (dp_bls _), sm.shaped (by decide), sm.shaped (by decide), _, rfl, ?_⟩
  rw [sm.eqv (by decide)]
  refine iteT' rfl ?_
  refine ⟨_, rfl, T, _, 1, x, rfl, rfl, .inl (.inl (s1 _ _ hT)), atI_nat (j := 1) rfl, x, d, rfl, dp_same s1 _ _ hx, sh, _, rfl, bad, d, rfl, dp_same s1 _ _ hb, sh, rfl, ?_⟩
  rw [decide_eq_true rfl]
  exact q H1 s1
end
end DQ

set_option Elab.async false
set_option linter.all false
set_option maxRecDepth 100000
set_option maxHeartbeats 1000000
namespace DQ
open PySem PySem.Spec PyProof.Rows L2
/-! ### which call ends how -/
def putG (K : PySem.W.Frag) (CF : Addr) : Sp := fun vs H Q E => spPut CF vs H Q E ∨ spNoFact K CF vs H Q E
def takeG (K : PySem.W.Frag) (CF : Addr) : Sp := fun vs H Q E => spTake CF vs H Q E ∨ spNoFact K CF vs H Q E
def askG (K : PySem.W.Frag) (dM C0 CF CI CL CT : Addr) : Sp := spAskOf (spAsked K C0 (putG K CF)) (spAsked K C0 (takeG K CF)) (spAsked K C0 (spAddG K CI CT)) (spAsked K C0 (spDropG K CI)) (spDoneG K dM C0 CL CF CI CT)
section
variable {K : PySem.W.Frag} {dM C0 CF CI CL CT : Addr}
/-- no store, by its form -/
theorem ends_form {H : Hp} {n : Int} {v w : V} {d : PyData} (hd : Dp K H v d) (n5 : ∀ ds, d = .tuple ds → ds.length ≠ 5) : EndsSo (askG K dM C0 CF CI CL CT) [.int n, v, w] H (some (C0, v)) := fun H1 Q E s1 th _ => by
  have b : spIsStore K [v] H1 (fun x H2 => x = .bl false ∧ Throws E C0 v H2) (fun _ _ _ => False) := ⟨v, rfl, .inl ⟨d, dp_same s1 _ _ hd, n5, fun H2 s2 => ⟨rfl, th C0 v rfl H2 s2⟩⟩⟩
  refine ⟨n, v, w, rfl, ?_⟩
  unfold pickSp
  split
  · exact ⟨v, w, rfl, .inl b⟩
  split
  · exact ⟨v, w, rfl, .inl b⟩
  split
  · exact ⟨v, w, rfl, .inl b⟩
  split
  · exact ⟨v, w, rfl, .inl b⟩
  · exact ⟨v, w, rfl, .inl b⟩
/-- no store, by its parts -/
theorem ends_parts {H : Hp} {n : Int} {v w : V} (h : ∀ (H1 : Hp) (Q : VK), Same H H1 → (∀ H2, Same H1 H2 → Q (.bl false) H2) → spIsStore K [v] H1 Q (fun _ _ _ => False)) : EndsSo (askG K dM C0 CF CI CL CT) [.int n, v, w] H (some (C0, v)) := fun H1 Q E s1 th _ => by
  have b : spIsStore K [v] H1 (fun x H2 => x = .bl false ∧ Throws E C0 v H2) (fun _ _ _ => False) := h H1 _ s1 fun H2 s2 => ⟨rfl, th C0 v rfl H2 s2⟩
  refine ⟨n, v, w, rfl, ?_⟩
  unfold pickSp
  split
  · exact ⟨v, w, rfl, .inl b⟩
  split
  · exact ⟨v, w, rfl, .inl b⟩
  split
  · exact ⟨v, w, rfl, .inl b⟩
  split
  · exact ⟨v, w, rfl, .inl b⟩
  · exact ⟨v, w, rfl, .inl b⟩
/-- what is no fact, put or taken -/
theorem ends_noFact {H : Hp} {n : Int} {v w : V} {m : Nat} {S : Store} {d : PyData} (h01 : n = 0 ∨ n = 1) (A0 : StoAt H v S) (D : Drawn m S) (hm : m ≤ 2000) (hd : Dp K H w d) (ps : Parts d) (bad : isFactD S.marks S.columns S.items d = false) : EndsSo (askG K dM C0 CF CI CL CT) [.int n, v, w] H (some (CF, w)) := fun H1 Q E s1 th _ => by
  refine ⟨n, v, w, rfl, ?_⟩
  unfold pickSp
  rcases h01 with rfl | rfl
  · rw [if_pos rfl]
    exact ⟨v, w, rfl, .inr ⟨m, S, hm, D, stoAt_same s1 A0, fun H2 s2 => .inr ⟨v, w, m, S, d, rfl, stoAt_same (s1.trans s2) A0, D, hm, dp_same (s1.trans s2) _ _ hd, ps, bad, fun H3 s3 => th CF w rfl H3 (s2.trans s3)⟩⟩⟩
  · rw [if_neg (by decide), if_pos rfl]
    exact ⟨v, w, rfl, .inr ⟨m, S, hm, D, stoAt_same s1 A0, fun H2 s2 => .inr ⟨v, w, m, S, d, rfl, stoAt_same (s1.trans s2) A0, D, hm, dp_same (s1.trans s2) _ _ hd, ps, bad, fun H3 s3 => th CF w rfl H3 (s2.trans s3)⟩⟩⟩
/-- a fact that cannot be put -/
theorem ends_noPut {H : Hp} {v w : V} {m : Nat} {S : Store} {x : Fact} (A0 : StoAt H v S) (D : Drawn m S) (hm : m ≤ 150) (hw : WhatAt H (.put x) w) (ok : EdOk (.put x)) (no : step S (.put x) = none) : EndsSo (askG K dM C0 CF CI CL CT) [.int 0, v, w] H (some (CF, w)) := fun H1 Q E s1 th _ => by
  refine ⟨0, v, w, rfl, ?_⟩
  unfold pickSp
  rw [if_pos rfl]
  exact ⟨v, w, rfl, .inr ⟨m, S, by omega, D, stoAt_same s1 A0, fun H2 s2 => .inl ⟨v, w, m, S, x, rfl, stoAt_same (s1.trans s2) A0, D, hm, hw.same (s1.trans s2), ok, (fun S' e => by rw [no] at e; cases e), fun _ H3 s3 => th CF w rfl H3 (s2.trans s3)⟩⟩⟩
theorem ends_noTake {H : Hp} {v w : V} {m : Nat} {S : Store} {x : Fact} (A0 : StoAt H v S) (D : Drawn m S) (hm : m ≤ 150) (hw : WhatAt H (.take x) w) (ok : EdOk (.take x)) (no : step S (.take x) = none) : EndsSo (askG K dM C0 CF CI CL CT) [.int 1, v, w] H (some (CF, w)) := fun H1 Q E s1 th _ => by
  refine ⟨1, v, w, rfl, ?_⟩
  unfold pickSp
  rw [if_neg (by decide), if_pos rfl]
  exact ⟨v, w, rfl, .inr ⟨m, S, by omega, D, stoAt_same s1 A0, fun H2 s2 => .inl ⟨v, w, m, S, x, rfl, stoAt_same (s1.trans s2) A0, D, hm, hw.same (s1.trans s2), ok, (fun S' e => by rw [no] at e; cases e), fun _ H3 s3 => th CF w rfl H3 (s2.trans s3)⟩⟩⟩
/-- what cannot be a new item -/
theorem ends_noAdd {H : Hp} {v w : V} {m : Nat} {S : Store} {d : PyData} (A0 : StoAt H v S) (D : Drawn m S) (hm : m ≤ 2000) (hd : Dp K H w d) (bad : numD d = false ∨ okItem S.items d = true) : EndsSo (askG K dM C0 CF CI CL CT) [.int 2, v, w] H (some (CI, w)) := fun H1 Q E s1 th _ => by
  refine ⟨2, v, w, rfl, ?_⟩
  unfold pickSp
  rw [if_neg (by decide), if_neg (by decide), if_pos rfl]
  exact ⟨v, w, rfl, .inr ⟨m, S, hm, D, stoAt_same s1 A0, fun H2 s2 => ⟨v, w, m, S, d, rfl, stoAt_same (s1.trans s2) A0, D, hm, dp_same (s1.trans s2) _ _ hd, fun _ H3 s3 => th CI w rfl H3 (s2.trans s3), fun i e1 e2 h1 h2 => absurd bad (by
    subst e2
    simp only [okItem, h1, Bool.true_and, decide_eq_true_eq, not_or]
    exact ⟨by simp, h2⟩)⟩⟩⟩
/-- what is no item, or stands in a fact -/
theorem ends_noDrop {H : Hp} {v w : V} {m : Nat} {S : Store} {d : PyData} (A0 : StoAt H v S) (D : Drawn m S) (hm : m ≤ 2000) (hd : Dp K H w d) (bad : okItem S.items d = false ∨ ∃ i, d = .int i ∧ i ∈ S.items ∧ hasI S.facts i = true) : EndsSo (askG K dM C0 CF CI CL CT) [.int 3, v, w] H (some (CI, w)) := fun H1 Q E s1 th _ => by
  refine ⟨3, v, w, rfl, ?_⟩
  unfold pickSp
  rw [if_neg (by decide), if_neg (by decide), if_neg (by decide), if_pos rfl]
  refine ⟨v, w, rfl, .inr ⟨m, S, hm, D, stoAt_same s1 A0, fun H2 s2 => ⟨v, w, m, S, d, rfl, stoAt_same (s1.trans s2) A0, D, hm, dp_same (s1.trans s2) _ _ hd, fun _ H3 s3 => th CI w rfl H3 (s2.trans s3), fun i e1 e2 h1 => ⟨fun _ H3 s3 => th CI w rfl H3 (s2.trans s3), fun h2 => ?_⟩⟩⟩⟩
  subst e2
  rcases bad with b | ⟨j, ej, hj, hh⟩
  · rw [okItem_of D.items.2 h1] at b
    cases b
  · injection ej with ej
    subst ej
    rw [h2] at hh
    cases hh
/-- one more than two thousand -/
theorem ends_many {H : Hp} {v : V} {m : Nat} {S : Store} {i : Int} (A0 : StoAt H v S) (D : Drawn m S) (hm : m ≤ 2000) (hi : numD (.int i) = true) (ni : i ∉ S.items) (full : 2000 ≤ S.items.length) : EndsSo (askG K dM C0 CF CI CL CT) [.int 2, v, .int i] H (some (CT, .int ((S.items.length + 1 : Nat) : Int))) := fun H1 Q E s1 th _ => by
  refine ⟨2, v, .int i, rfl, ?_⟩
  unfold pickSp
  rw [if_neg (by decide), if_neg (by decide), if_pos rfl]
  refine ⟨v, .int i, rfl, .inr ⟨m, S, hm, D, stoAt_same s1 A0, fun H2 s2 => ⟨v, .int i, m, S, .int i, rfl, stoAt_same (s1.trans s2) A0, D, hm, .int i, fun b => ?_, fun j e1 e2 h1 h2 => ⟨fun _ H3 s3 => th CT _ rfl H3 (s2.trans s3), fun l => by omega⟩⟩⟩⟩
  rcases b with b | b
  · rw [hi] at b
    cases b
  · obtain ⟨j, hj, ej⟩ := okItem_int b
    injection ej with ej
    subst ej
    exact absurd hj ni
end
end DQ

set_option Elab.async false
set_option linter.all false
set_option maxRecDepth 100000
set_option maxHeartbeats 1000000
namespace DQ
open PySem PySem.Spec PyProof.Rows L2
section
variable {K : PySem.W.Frag} {dM C0 CF CI CL CT : Addr}
/-- what is no list of edits -/
theorem ends_noEdits {H : Hp} {v w : V} {m : Nat} {S : Store} {d : PyData} (A0 : StoAt H v S) (D : Drawn m S) (hm : m ≤ 2000) (hd : Dp K H w d) (kn : ∀ ds, d = .list ds → ds.length ≤ 10000 ∧ ∀ e ∈ ds, Known K dM e) (bad : editsD d = false) : EndsSo (askG K dM C0 CF CI CL CT) [.int 4, v, w] H (some (CL, w)) := fun H1 Q E s1 th _ => by
  refine ⟨4, v, w, rfl, ?_⟩
  unfold pickSp
  rw [if_neg (by decide), if_neg (by decide), if_neg (by decide), if_neg (by decide)]
  exact ⟨v, w, rfl, .inr ⟨m, S, d, hm, D, stoAt_same s1 A0, dp_same s1 _ _ hd, kn, fun _ H2 s2 => th CL w rfl H2 s2, fun h => by rw [bad] at h; cases h⟩⟩
/-- the road of some edits from a store, and how it ends -/
def RoadSo (K : PySem.W.Frag) (CF CI CT : Addr) (ws : List V) (S : Store) (H : Hp) (o : Option (Addr × V)) : Prop := ∀ (Q : VK) (E : XK) (H1 : Hp) (v1 : V), Same H H1 → StoAt H1 v1 S → (∀ C bad, o = some (C, bad) → ∀ H2, Same H1 H2 → Throws E C bad H2) → (o = none → ∀ x H2, Same H1 H2 → Q x H2) → RoadG K CF CI CT Q E ws v1 H1
theorem ends_road {H : Hp} {v : V} {a : Addr} {ws : List V} {m : Nat} {S : Store} {d : PyData} {o : Option (Addr × V)} (A0 : StoAt H v S) (D : Drawn m S) (hm : m ≤ 2000) (hd : Dp K H (.ref a) d) (kn : ∀ ds, d = .list ds → ds.length ≤ 10000 ∧ ∀ e ∈ ds, Known K dM e) (ed : editsD d = true) (ha : H a = some (.lst ws)) (r : RoadSo K CF CI CT ws S H o) :
    EndsSo (askG K dM C0 CF CI CL CT) [.int 4, v, .ref a] H o := fun H1 Q E s1 th ok => by
  refine ⟨4, v, .ref a, rfl, ?_⟩
  unfold pickSp
  rw [if_neg (by decide), if_neg (by decide), if_neg (by decide), if_neg (by decide)]
  exact ⟨v, .ref a, rfl, .inr ⟨m, S, d, hm, D, stoAt_same s1 A0, dp_same s1 _ _ hd, kn, (fun h => by rw [ed] at h; cases h), fun _ => ⟨a, ws, rfl, s1 _ _ ha, fun v1 H2 H3 s2 s3 n =>
    r Q E H3 v1 ((s1.trans s2).trans s3) n.at (fun C bad e H4 s4 => th C bad e H4 ((s2.trans s3).trans s4)) fun e x H4 s4 => ok e x H4 ((s2.trans s3).trans s4)⟩⟩⟩
theorem road_end {S : Store} {H : Hp} : RoadSo K CF CI CT [] S H none := fun Q E H1 v1 _ _ _ ok => ok rfl v1 H1 fun _ _ h => h
theorem road_noFact {H : Hp} {a : Addr} {x : V} {word : Str} {r : List V} {m : Nat} {S : Store} {d : PyData} (hw : word = "put" ∨ word = "take") (ha : H a = some (.tup [.str word, x])) (D : Drawn m S) (hm : m ≤ 2000) (hd : Dp K H x d) (ps : Parts d) (bad : isFactD S.marks S.columns S.items d = false) : RoadSo K CF CI CT (.ref a :: r) S H (some (CF, x)) := fun Q E H1 v1 s1 A1 th _ => by
  refine ⟨a, x, word, rfl, s1 _ _ ha, ?_⟩
  rcases hw with rfl | rfl
  · exact .inl ⟨rfl, .inr ⟨v1, x, m, S, d, rfl, A1, D, hm, dp_same s1 _ _ hd, ps, bad, fun H2 s2 => th CF x rfl H2 s2⟩⟩
  · exact .inr (.inl ⟨rfl, .inr ⟨v1, x, m, S, d, rfl, A1, D, hm, dp_same s1 _ _ hd, ps, bad, fun H2 s2 => th CF x rfl H2 s2⟩⟩)
theorem road_noAdd {H : Hp} {a : Addr} {x : V} {r : List V} {m : Nat} {S : Store} {d : PyData} (ha : H a = some (.tup [.str "add", x])) (D : Drawn m S) (hm : m ≤ 2000) (hd : Dp K H x d) (bad : numD d = false ∨ okItem S.items d = true) : RoadSo K CF CI CT (.ref a :: r) S H (some (CI, x)) := fun Q E H1 v1 s1 A1 th _ =>
  ⟨a, x, "add", rfl, s1 _ _ ha, .inr (.inr (.inl ⟨rfl, v1, x, m, S, d, rfl, A1, D, hm, dp_same s1 _ _ hd, fun _ H2 s2 => th CI x rfl H2 s2, fun i e1 e2 h1 h2 => absurd bad (by
    subst e2
    simp only [okItem, h1, Bool.true_and, decide_eq_true_eq, not_or]
    exact ⟨by simp, h2⟩)⟩))⟩
theorem road_many {H : Hp} {a : Addr} {i : Int} {r : List V} {m : Nat} {S : Store} (ha : H a = some (.tup [.str "add", .int i])) (D : Drawn m S) (hm : m ≤ 2000) (hi : numD (.int i) = true) (ni : i ∉ S.items) (full : 2000 ≤ S.items.length) : RoadSo K CF CI CT (.ref a :: r) S H (some (CT, .int ((S.items.length + 1 : Nat) : Int))) := fun Q E H1 v1 s1 A1 th _ =>
  ⟨a, .int i, "add", rfl, s1 _ _ ha, .inr (.inr (.inl ⟨rfl, v1, .int i, m, S, .int i, rfl, A1, D, hm, .int i, fun b => by
    rcases b with b | b
    · rw [hi] at b
      cases b
    · obtain ⟨j, hj, ej⟩ := okItem_int b
      injection ej with ej
      subst ej
      exact absurd hj ni, fun j e1 e2 h1 h2 => ⟨fun _ H2 s2 => th CT _ rfl H2 s2, fun l => by omega⟩⟩))⟩
theorem road_noDrop {H : Hp} {a : Addr} {x : V} {r : List V} {m : Nat} {S : Store} {d : PyData} (ha : H a = some (.tup [.str "drop", x])) (D : Drawn m S) (hm : m ≤ 2000) (hd : Dp K H x d) (bad : okItem S.items d = false) : RoadSo K CF CI CT (.ref a :: r) S H (some (CI, x)) := fun Q E H1 v1 s1 A1 th _ =>
  ⟨a, x, "drop", rfl, s1 _ _ ha, .inr (.inr (.inr ⟨rfl, v1, x, m, S, d, rfl, A1, D, hm, dp_same s1 _ _ hd, fun _ H2 s2 => th CI x rfl H2 s2, fun i e1 e2 h1 => by
    subst e2
    rw [okItem_of D.items.2 h1] at bad
    cases bad⟩))⟩
/-- an item more, and on -/
theorem road_add {H : Hp} {a : Addr} {i : Int} {r : List V} {m : Nat} {S : Store} {o : Option (Addr × V)} (ha : H a = some (.tup [.str "add", .int i])) (D : Drawn m S) (hm : m ≤ 2000) (hi : numD (.int i) = true) (ni : i ∉ S.items) (few : S.items.length < 2000) (on : RoadSo K CF CI CT r { S with items := sortI (S.items ++ [i]) } H o) : RoadSo K CF CI CT (.ref a :: r) S H o := fun Q E H1 v1 s1 A1 th ok =>
  ⟨a, .int i, "add", rfl, s1 _ _ ha, .inr (.inr (.inl ⟨rfl, v1, .int i, m, S, .int i, rfl, A1, D, hm, .int i, fun b => by
    rcases b with b | b
    · rw [hi] at b
      cases b
    · obtain ⟨j, hj, ej⟩ := okItem_int b
      injection ej with ej
      subst ej
      exact absurd hj ni, fun j e1 e2 h1 h2 => ⟨fun l => by omega, fun _ v2 H2 s2 n => ⟨s2, on Q E H2 v2 (s1.trans s2) (by injection e2 with e2; subst e2; exact n.at) (fun C bad e H3 s3 => th C bad e H3 (s2.trans s3)) fun e x H3 s3 => ok e x H3 (s2.trans s3)⟩⟩⟩))⟩
/-- an item less, and on -/
theorem road_drop {H : Hp} {a : Addr} {i : Int} {r : List V} {m : Nat} {S : Store} {o : Option (Addr × V)} (ha : H a = some (.tup [.str "drop", .int i])) (D : Drawn m S) (hm : m ≤ 2000) (hi : i ∈ S.items) (no : hasI S.facts i = false) (on : RoadSo K CF CI CT r { S with items := S.items.filter fun j => decide (j ≠ i) } H o) : RoadSo K CF CI CT (.ref a :: r) S H o := fun Q E H1 v1 s1 A1 th ok =>
  ⟨a, .int i, "drop", rfl, s1 _ _ ha, .inr (.inr (.inr ⟨rfl, v1, .int i, m, S, .int i, rfl, A1, D, hm, .int i, (fun b => by
    rw [okItem_of D.items.2 hi] at b
    cases b), fun j e1 e2 h1 => by
    injection e2 with e2
    subst e2
    exact ⟨(fun h => by rw [no] at h; cases h), fun _ v2 H2 s2 n => ⟨s2, on Q E H2 v2 (s1.trans s2) n.at (fun C bad e H3 s3 => th C bad e H3 (s2.trans s3)) fun e x H3 s3 => ok e x H3 (s2.trans s3)⟩⟩⟩))⟩
end
end DQ

set_option Elab.async false
set_option linter.all false
set_option maxRecDepth 100000
set_option maxHeartbeats 1000000
namespace DQ
open PySem PySem.Spec PyProof.Rows L2
/-- the place of an error's class among the five -/
theorem flags_at {C0 CF CI CL CT : Addr} (nd : [C0, CF, CI, CL, CT].Nodup) {k : Nat} {C : Addr} (h : [C0, CF, CI, CL, CT][k]? = some C) : flags (some C) C0 CF CI CL CT = (at5 k).map V.bl := by
  simp only [List.nodup_cons, List.mem_cons, List.not_mem_nil, or_false, not_or, List.nodup_nil, and_true, not_false_eq_true] at nd
  obtain ⟨⟨a1, a2, a3, a4⟩, ⟨b1, b2, b3⟩, ⟨c1, c2⟩, d1⟩ := nd
  have e : ∀ x y : Addr, decide (some x = some y) = decide (x = y) := fun x y => by simp
  match k, h with
  | 0, h =>
    injection h with h
    subst h
    simp only [flags, e, decide_true, decide_eq_false a1, decide_eq_false a2, decide_eq_false a3, decide_eq_false a4]
    rfl
  | 1, h =>
    injection h with h
    subst h
    simp only [flags, e, decide_true, decide_eq_false (Ne.symm a1), decide_eq_false b1, decide_eq_false b2, decide_eq_false b3]
    rfl
  | 2, h =>
    injection h with h
    subst h
    simp only [flags, e, decide_true, decide_eq_false (Ne.symm a2), decide_eq_false (Ne.symm b1), decide_eq_false c1, decide_eq_false c2]
    rfl
  | 3, h =>
    injection h with h
    subst h
    simp only [flags, e, decide_true, decide_eq_false (Ne.symm a3), decide_eq_false (Ne.symm b2), decide_eq_false (Ne.symm c1), decide_eq_false d1]
    rfl
  | 4, h =>
    injection h with h
    subst h
    simp only [flags, e, decide_true, decide_eq_false (Ne.symm a4), decide_eq_false (Ne.symm b3), decide_eq_false (Ne.symm c2), decide_eq_false (Ne.symm d1)]
    rfl
  | k + 5, h => simp at h
section
variable {K : PySem.W.Frag} {dM C0 CF CI CL CT : Addr}
/-- an item that can be added -/
theorem ends_add {H : Hp} {v : V} {m : Nat} {S : Store} {i : Int} (A0 : StoAt H v S) (D : Drawn m S) (hm : m ≤ 2000) (hi : numD (.int i) = true) (ni : i ∉ S.items) (few : S.items.length < 2000) : EndsSo (askG K dM C0 CF CI CL CT) [.int 2, v, .int i] H none := fun H1 Q E s1 _ ok => by
  refine ⟨2, v, .int i, rfl, ?_⟩
  unfold pickSp
  rw [if_neg (by decide), if_neg (by decide), if_pos rfl]
  refine ⟨v, .int i, rfl, .inr ⟨m, S, hm, D, stoAt_same s1 A0, fun H2 s2 => ⟨v, .int i, m, S, .int i, rfl, stoAt_same (s1.trans s2) A0, D, hm, .int i, (fun b => ?_), fun j e1 e2 h1 h2 => ⟨fun l => by omega, fun _ v3 H3 s3 n => ok rfl v3 H3 (s2.trans s3)⟩⟩⟩⟩
  rcases b with b | b
  · rw [hi] at b
    cases b
  · obtain ⟨j, hj, ej⟩ := okItem_int b
    injection ej with ej
    subst ej
    exact absurd hj ni
/-- the call of _law_caught, its ask, where the answer is an error of the k-th class and the value handed in or told -/
theorem caught_asks {sp : Sp} {H : Hp} {n v w bad : V} {d1 d2 : PyData} {C : Addr} {k : Nat} {Q : VK} {E : XK} (nd : [C0, CF, CI, CL, CT].Nodup) (hk : [C0, CF, CI, CL, CT][k]? = some C) (h1 : Dp K H v d1) (h2 : Dp K H w d2) (sh : ShowsZ (.list [d1, d2])) (en : EndsSo sp [n, v, w] H (some (C, bad)))
    (q : ∀ (T L : Addr) (H' : Hp), Same H H' → H' T = some (.tup [.ref L, bad]) → H' L = some (.lst ((at5 k).map V.bl)) → Q (.ref T) H') : spCaughtOf K sp C0 CF CI CL CT [n, v, w] H Q E :=
  ⟨n, v, w, d1, d2, some (C, bad), rfl, h1, h2, sh, (fun C' b e => by injection e with e; injection e with e _; subst e; exact List.mem_of_getElem? hk), en, fun T L H' s hT hL => q T L H' s hT (by rw [← flags_at nd hk]; exact hL)⟩
end
end DQ

set_option Elab.async false
set_option linter.all false
set_option maxRecDepth 100000
set_option maxHeartbeats 1000000
namespace DQ
open PySem PySem.Spec PyProof.Rows L2
/-! ### the written store, and what is nearly a fact of it -/
def nearS : Store := ⟨["red"], ["next"], [0, 1, 2], [.link "next" 0 1, .link "next" 1 0, .mark "red" 0, .mark "red" 1]⟩
theorem near_drawn : Drawn 3 nearS := by
  refine ⟨⟨1, by decide, rfl⟩, ⟨1, by decide, by decide, rfl⟩, ⟨by decide, by decide⟩, by decide, by decide, by decide +kernel, fun x h => ?_, fun c => ?_⟩
  · simp only [nearS, List.mem_cons, List.not_mem_nil, or_false] at h
    rcases h with rfl | rfl | rfl | rfl
    · exact ⟨by decide +kernel, by decide, by decide⟩
    · exact ⟨by decide +kernel, by decide, by decide⟩
    · exact ⟨by decide +kernel, by decide⟩
    · exact ⟨by decide +kernel, by decide⟩
  · show OneToOne [0, 1, 2] (linksOf c nearS.facts)
    by_cases e : ("next" : Str) = c
    · have l : linksOf c nearS.facts = [(0, 1), (1, 0)] := by
        subst e
        decide +kernel
      rw [l]
      exact ⟨by decide, by decide, by decide⟩
    · have l : linksOf c nearS.facts = [] := by
        have z : ∀ a b, Fact.on c (.link "next" a b) = none := fun a b => if_neg e
        unfold linksOf nearS
        simp only [List.filterMap_cons, z, List.filterMap_nil]
        rfl
      rw [l]
      exact oneToOne_nil _
def nearOdd : List PyData := [.tuple [.str "mark", .str "red", .bool true], .tuple [.str "mark", .str "red", .bool false], .tuple [.str "link", .str "next", .bool false, .int 1], .tuple [.str "link", .str "next", .int 0, .bool true], .tuple [.str "mark", .str "red", .list [.int 1]], .tuple [.str "link", .str "next", .int 1, .dict []]]
theorem near_bad : ∀ d ∈ nearOdd, isFactD nearS.marks nearS.columns nearS.items d = false := by decide +kernel
theorem near_parts : ∀ d ∈ nearOdd, Parts d := fun d hd ds e x hx => by
  subst e
  have two : ∀ a b : PyData, SeqAt.shaped a = true → SeqAt.shaped b = true → ∀ r : List PyData, ∀ x ∈ (a :: b :: r).take 2, SeqAt.shaped x = true := fun a b h1 h2 r x hx => by
    simp only [List.take_succ_cons, List.take_zero, List.mem_cons, List.not_mem_nil, or_false] at hx
    rcases hx with rfl | rfl
    · exact h1
    · exact h2
  simp only [nearOdd, List.mem_cons, List.not_mem_nil, or_false, PyData.tuple.injEq] at hd
  rcases hd with rfl | rfl | rfl | rfl | rfl | rfl <;> exact two _ _ (by decide +kernel) (by decide +kernel) _ x hx
def nearLinks : List Fact := [.link "next" 1 1, .link "next" 2 0, .link "next" 0 2]
theorem near_noPut : ∀ x ∈ nearLinks ++ [.mark "red" 0], step nearS (.put x) = none := fun x hx => by
  simp only [nearLinks, List.cons_append, List.nil_append, List.mem_cons, List.not_mem_nil, or_false] at hx
  have h : ∀ x : Fact, (ofB nearS x && !decide (x ∈ nearS.facts) && !ledB nearS.facts x) = false → step nearS (.put x) = none := fun x h => by
    simp only [step]
    rw [h]
    rfl
  rcases hx with rfl | rfl | rfl | rfl <;> exact h _ (by decide +kernel)
theorem near_noTake : ∀ x ∈ nearLinks, step nearS (.take x) = none := fun x hx => by
  simp only [nearLinks, List.mem_cons, List.not_mem_nil, or_false] at hx
  have h : ∀ x : Fact, x ∉ nearS.facts → step nearS (.take x) = none := fun x h => by
    simp only [step]
    rw [if_neg h]
  rcases hx with rfl | rfl | rfl <;> exact h _ (by decide +kernel)
theorem near_ok : ∀ x ∈ nearLinks ++ [.mark "red" 0], x.word ∈ editWords ∧ ∀ i ∈ x.nums, 0 ≤ i ∧ i ≤ 1000000000 := fun x hx => by
  simp only [nearLinks, List.cons_append, List.nil_append, List.mem_cons, List.not_mem_nil, or_false] at hx
  rcases hx with rfl | rfl | rfl | rfl
  · exact ⟨by decide +kernel, by decide⟩
  · exact ⟨by decide +kernel, by decide⟩
  · exact ⟨by decide +kernel, by decide⟩
  · exact ⟨by decide +kernel, by decide⟩
/-! ### the full store -/
def fullS : Store := ⟨[], ["next"], (List.range 2000).map fun i : Nat => (i : Int), []⟩
theorem full_drawn : Drawn 2000 fullS := by
  refine ⟨⟨0, by decide, rfl⟩, ⟨1, by decide, by decide, rfl⟩, ⟨?_, fun x hx => ?_⟩, ?_, by decide, List.Pairwise.nil, (fun x h => by cases h), fun c => oneToOne_nil _⟩
  · show ((List.range 2000).map fun i : Nat => (i : Int)).Pairwise (· < ·)
    rw [List.pairwise_map]
    exact List.pairwise_lt_range.imp fun h => by omega
  · obtain ⟨i, hi, rfl⟩ := List.mem_map.mp hx
    have := List.mem_range.mp hi
    omega
  · show ((List.range 2000).map fun i : Nat => (i : Int)).length ≤ 2000
    rw [List.length_map, List.length_range]
    exact Nat.le_refl _
end DQ

set_option Elab.async false
set_option linter.all false
set_option maxRecDepth 100000
set_option maxHeartbeats 1000000
namespace DQ
open PySem PySem.Spec PyProof.Rows L2
/-! ### data that is written down in a def: one promise for a whole literal -/
mutual
def Lit (H : Hp) : PyData → V → Prop
  | .none, v => v = .non
  | .bool b, v => v = .bl b
  | .int i, v => v = .int i
  | .str x, v => v = .str x
  | .list ds, v => ∃ (a : Addr) (xs : List V), v = .ref a ∧ H a = some (.lst xs) ∧ LitAll H ds xs
  | .tuple ds, v => ∃ (a : Addr) (xs : List V), v = .ref a ∧ H a = some (.tup xs) ∧ LitAll H ds xs
  | .dict kvs, v => kvs = [] ∧ ∃ a : Addr, v = .ref a ∧ H a = some (.dK [])
def LitAll (H : Hp) : List PyData → List V → Prop
  | [], xs => xs = []
  | d :: ds, xs => ∃ (v : V) (vs : List V), xs = v :: vs ∧ Lit H d v ∧ LitAll H ds vs
end
mutual
theorem lit_same {H H' : Hp} (e : Same H H') : ∀ (d : PyData) (v : V), Lit H d v → Lit H' d v
  | .none, _, h => by simpa only [Lit] using h
  | .bool b, _, h => by simpa only [Lit] using h
  | .int i, _, h => by simpa only [Lit] using h
  | .str x, _, h => by simpa only [Lit] using h
  | .list ds, _, h => by
    simp only [Lit] at h ⊢
    obtain ⟨a, xs, r, ha, hx⟩ := h
    exact ⟨a, xs, r, e _ _ ha, litAll_same e ds _ hx⟩
  | .tuple ds, _, h => by
    simp only [Lit] at h ⊢
    obtain ⟨a, xs, r, ha, hx⟩ := h
    exact ⟨a, xs, r, e _ _ ha, litAll_same e ds _ hx⟩
  | .dict kvs, _, h => by
    simp only [Lit] at h ⊢
    obtain ⟨z, a, r, ha⟩ := h
    exact ⟨z, a, r, e _ _ ha⟩
theorem litAll_same {H H' : Hp} (e : Same H H') : ∀ (ds : List PyData) (vs : List V), LitAll H ds vs → LitAll H' ds vs
  | [], _, h => by simpa only [LitAll] using h
  | d :: ds, _, h => by
    simp only [LitAll] at h ⊢
    obtain ⟨v, vs, r, h1, h2⟩ := h
    exact ⟨v, vs, r, lit_same e d _ h1, litAll_same e ds _ h2⟩
end
mutual
theorem lit_dp {K : PySem.W.Frag} {H : Hp} : ∀ (d : PyData) (v : V), Lit H d v → Dp K H v d
  | .none, _, h => by
    simp only [Lit] at h
    rw [h]
    exact .non
  | .bool b, _, h => by
    simp only [Lit] at h
    rw [h]
    exact .bl b
  | .int i, _, h => by
    simp only [Lit] at h
    rw [h]
    exact .int i
  | .str x, _, h => by
    simp only [Lit] at h
    rw [h]
    exact .str x
  | .list ds, _, h => by
    simp only [Lit] at h
    obtain ⟨a, xs, r, ha, hx⟩ := h
    rw [r]
    exact .lst (SqL.of ha) (litAll_dp ds _ hx)
  | .tuple ds, _, h => by
    simp only [Lit] at h
    obtain ⟨a, xs, r, ha, hx⟩ := h
    rw [r]
    exact .tup (.inl (.inl ha)) (litAll_dp ds _ hx)
  | .dict kvs, _, h => by
    simp only [Lit] at h
    obtain ⟨z, a, r, ha⟩ := h
    rw [z, r]
    exact .dct ha
theorem litAll_dp {K : PySem.W.Frag} {H : Hp} : ∀ (ds : List PyData) (vs : List V), LitAll H ds vs → DpAll K H vs ds
  | [], _, h => by
    simp only [LitAll] at h
    rw [h]
    exact .nil
  | d :: ds, _, h => by
    simp only [LitAll] at h
    obtain ⟨v, vs, r, h1, h2⟩ := h
    rw [r]
    exact .cons (lit_dp d _ h1) (litAll_dp ds _ h2)
end
theorem litAll_len {H : Hp} : ∀ {ds : List PyData} {vs : List V}, LitAll H ds vs → vs.length = ds.length
  | [], _, h => by
    simp only [LitAll] at h
    rw [h]
    rfl
  | d :: ds, _, h => by
    simp only [LitAll] at h
    obtain ⟨v, vs, r, h1, h2⟩ := h
    rw [r, List.length_cons, List.length_cons, litAll_len h2]
theorem litAll_get {H : Hp} : ∀ {ds : List PyData} {vs : List V} {k : Nat} {v : V}, LitAll H ds vs → vs[k]? = some v → ∃ d, ds[k]? = some d ∧ Lit H d v
  | [], _, _, _, h, e => by
    simp only [LitAll] at h
    rw [h] at e
    simp at e
  | d :: ds, _, 0, _, h, e => by
    simp only [LitAll] at h
    obtain ⟨v, vs, r, h1, h2⟩ := h
    rw [r] at e
    cases e
    exact ⟨d, rfl, h1⟩
  | d :: ds, _, k + 1, _, h, e => by
    simp only [LitAll] at h
    obtain ⟨v, vs, r, h1, h2⟩ := h
    rw [r] at e
    exact litAll_get (k := k) h2 (by simpa using e)
/-- a part of the heap (all of it, or all but one place), and what the slots and the heap say and go on saying -/
structure View (vw : L2.St → Hp → Hp) (Pre : L2.St → Hp → Prop) : Prop where
  same : ∀ σ H H', Same H H' → Same (vw σ H) (vw σ H')
  new : ∀ σ H p o, Pre σ H → H p = none → vw σ (upd H p o) p = some o
  steady : ∀ σ H H', Same H H' → Pre σ H → Pre σ H'
theorem view_all {Pre : L2.St → Hp → Prop} (s : ∀ σ H H', Same H H' → Pre σ H → Pre σ H') : View (fun _ H => H) Pre := ⟨fun _ _ _ s => s, fun _ _ _ _ _ _ => upd_same, s⟩
theorem same_del {F : Addr} {H H' : Hp} (s : Same H H') : Same (del H F) (del H' F) := fun b o e => by
  by_cases z : b = F
  · rw [z, del_same] at e
    cases e
  · rw [del_ne z] at e ⊢
    exact s b o e
/-- the place that a slot names -/
def slotA (i : Nat) (σ : L2.St) : Addr := match σ[i]? with
  | some (some (.ref a)) => a
  | _ => 0
theorem view_two {i : Nat} {g : Addr} {Pre : L2.St → Hp → Prop} (h : ∀ σ H, Pre σ H → H (slotA i σ) ≠ none ∧ H g ≠ none) (s : ∀ σ H H', Same H H' → Pre σ H → Pre σ H') : View (fun σ H => del (del H (slotA i σ)) g) Pre := ⟨fun _ _ _ s => same_del (same_del s), fun σ H p o q n => by
  show del (del (upd H p o) (slotA i σ)) g p = some o
  rw [del_ne (fun e => (h σ H q).2 (by rw [← e]; exact n)), del_ne (fun e => (h σ H q).1 (by rw [← e]; exact n)), upd_same], s⟩
theorem del_sub {F : Addr} {H : Hp} : Same (del H F) H := fun b o e => by
  by_cases z : b = F
  · rw [z, del_same] at e
    cases e
  · rwa [del_ne z] at e
/-- a literal: its data hangs on the slots alone -/
def tLit (vw : L2.St → Hp → Hp) (Pre : L2.St → Hp → Prop) (d : L2.St → PyData) : TE := fun σ H Q => Pre σ H ∧ ∀ v H', Same H H' → Lit (vw σ H') (d σ) v → Q v H'
def tLits (vw : L2.St → Hp → Hp) (Pre : L2.St → Hp → Prop) (ds : L2.St → List PyData) : TA := fun σ H Q => Pre σ H ∧ ∀ vs H', Same H H' → LitAll (vw σ H') (ds σ) vs → Q vs H'
theorem pe_mono {X : Cx} {e : Expr} {te te' : TE} (h : PE X e te) (m : ∀ σ H Q, te' σ H Q → te σ H Q) : PE X e te' := ⟨fun pins s σ H Q I q => h.run pins s σ H Q I (m σ H Q q)⟩
theorem pa_mono {X : Cx} {es : List Expr} {t t' : TA} (h : PA X es t) (m : ∀ σ H Q, t' σ H Q → t σ H Q) : PA X es t' := ⟨fun pos pins s σ H Q I q => h.run pos pins s σ H Q I (m σ H Q q)⟩
section
variable {X : Cx} {vw : L2.St → Hp → Hp} {Pre : L2.St → Hp → Prop} {pos : Pos}
theorem l_int {i : Int} {j} : PE X (.Constant (.int i) j pos) (tLit vw Pre fun _ => .int i) := pe_mono pe_int fun σ H Q h => h.2 _ H (L2.Same.refl H) (by simp only [Lit])
theorem l_bl {b : Bool} {j} : PE X (.Constant (.bool b) j pos) (tLit vw Pre fun _ => .bool b) := pe_mono pe_bl fun σ H Q h => h.2 _ H (L2.Same.refl H) (by simp only [Lit])
theorem l_non {j} : PE X (.Constant .none j pos) (tLit vw Pre fun _ => .none) := pe_mono pe_non fun σ H Q h => h.2 _ H (L2.Same.refl H) (by simp only [Lit])
theorem l_str {x : Str} {j} : PE X (.Constant (.str x) j pos) (tLit vw Pre fun _ => .str x) := pe_mono pe_str fun σ H Q h => h.2 _ H (L2.Same.refl H) (by simp only [Lit])
theorem l_neg {i : Int} {j pos'} : PE X (.UnaryOp .USub (.Constant (.int i) j pos') pos) (tLit vw Pre fun _ => .int (-i)) := pe_mono (pe_un un_neg pe_int) fun σ H Q h => ⟨i, rfl, h.2 _ H (L2.Same.refl H) (by simp only [Lit])⟩
/-- the int in a slot -/
def slotI (i : Nat) (σ : L2.St) : Int := match σ[i]? with
  | some (some (.int k)) => k
  | _ => 0
theorem l_ivar {x : Str} {i : Nat} (h : PE X (.Name x pos) (tVar i)) (m : ∀ σ H, Pre σ H → ∃ k, σ[i]? = some (some (.int k))) : PE X (.Name x pos) (tLit vw Pre fun σ => .int (slotI i σ)) := pe_mono h fun σ H Q q => by
  obtain ⟨k, e⟩ := m σ H q.1
  refine ⟨_, e, q.2 _ H (L2.Same.refl H) ?_⟩
  simp only [Lit, slotI]
  rw [e]
theorem l_pow {a b c : Int} {j1 j2 p1 p2} (h : 0 ≤ b ∧ a.natAbs ≤ 1000 ∧ b.toNat ≤ 100) (e : a ^ b.toNat = c) (pw : OpR X (binaryOp .Pow) (fun x y H Q => x = .int a ∧ y = .int b ∧ Q (.int c) H)) : PE X (.BinOp (.Constant (.int a) j1 p1) .Pow (.Constant (.int b) j2 p2) pos) (tLit vw Pre fun _ => .int c) := pe_mono (pe_op pw pe_int pe_int) fun σ H Q h => ⟨rfl, rfl, h.2 _ H (L2.Same.refl H) (by simp only [Lit])⟩
theorem l_dct (V : View vw Pre) : PE X (.Dict [] [] pos) (tLit vw Pre fun _ => .dict []) := pe_mono pe_dnewK fun σ H Q h p np => h.2 _ _ (same_new np) (by
  simp only [Lit]
  exact ⟨trivial, p, rfl, V.new σ H p _ h.1 np⟩)
theorem l_nil : PA X [] (tLits vw Pre fun _ => []) := pa_mono pa_nil fun σ H Q h => h.2 _ H (L2.Same.refl H) (by simp only [LitAll])
theorem l_cons (V : View vw Pre) {e : Expr} {es : List Expr} {d : L2.St → PyData} {ds : L2.St → List PyData} (he : PE X e (tLit vw Pre d)) (hr : PA X es (tLits vw Pre ds)) (hs : starEach (e :: es) X.env = (false, eval e X.env) :: starEach es X.env := by rfl) : PA X (e :: es) (tLits vw Pre fun σ => d σ :: ds σ) :=
  pa_mono (pa_cons he hr hs) fun σ H Q h => ⟨h.1, fun v H1 s1 l1 => ⟨V.steady _ _ _ s1 h.1, fun vs H2 s2 l2 => h.2 _ H2 (s1.trans s2) (by
    simp only [LitAll]
    exact ⟨v, vs, rfl, lit_same (V.same σ _ _ s2) _ _ l1, l2⟩)⟩⟩
theorem l_lst (V : View vw Pre) {es : List Expr} {ds : L2.St → List PyData} (h : PA X es (tLits vw Pre ds)) (few : ∀ σ, (ds σ).length ≤ 1000 := by intro _; exact Nat.le_of_ble_eq_true rfl) : PE X (.List es pos) (tLit vw Pre fun σ => .list (ds σ)) := pe_mono (pe_lst h) fun σ H Q q => ⟨q.1, fun vs H1 s1 l1 => ⟨by
    rw [litAll_len l1]
    exact Nat.le_trans (few σ) (by decide), fun p np => q.2 _ _ (s1.trans (same_new np)) (by
    simp only [Lit]
    exact ⟨p, vs, rfl, V.new σ H1 p _ (V.steady _ _ _ s1 q.1) np, litAll_same (V.same σ _ _ (same_new np)) _ _ l1⟩)⟩⟩
theorem l_tup (V : View vw Pre) {es : List Expr} {ds : L2.St → List PyData} {k} (h : PA X es (tLits vw Pre ds)) (few : ∀ σ, (ds σ).length ≤ 1000 := by intro _; exact Nat.le_of_ble_eq_true rfl) : PE X (.Tuple es k pos) (tLit vw Pre fun σ => .tuple (ds σ)) := pe_mono (pe_tup h) fun σ H Q q => ⟨q.1, fun vs H1 s1 l1 => ⟨by
    rw [litAll_len l1]
    exact Nat.le_trans (few σ) (by decide), fun p np => q.2 _ _ (s1.trans (same_new np)) (by
    simp only [Lit]
    exact ⟨p, vs, rfl, V.new σ H1 p _ (V.steady _ _ _ s1 q.1) np, litAll_same (V.same σ _ _ (same_new np)) _ _ l1⟩)⟩⟩
end
end DQ

set_option Elab.async false
set_option linter.all false
set_option maxRecDepth 100000
set_option maxHeartbeats 2000000
namespace DQ
open PySem PySem.Spec PyProof.Rows L2
/-! ### stores written out -/
theorem strs_lit {H : Hp} : ∀ {ms : List Str} {xs : List V}, LitAll H (ms.map PyData.str) xs → xs = ms.map V.str
  | [], _, h => by simpa only [List.map_nil, LitAll] using h
  | m :: r, _, h => by
    simp only [List.map_cons, LitAll] at h
    obtain ⟨v, vs, rfl, h1, h2⟩ := h
    simp only [Lit] at h1
    rw [h1, strs_lit h2]
    rfl
theorem ints_lit {H : Hp} : ∀ {ms : List Int} {xs : List V}, LitAll H (ms.map PyData.int) xs → xs = ms.map V.int
  | [], _, h => by simpa only [List.map_nil, LitAll] using h
  | m :: r, _, h => by
    simp only [List.map_cons, LitAll] at h
    obtain ⟨v, vs, rfl, h1, h2⟩ := h
    simp only [Lit] at h1
    rw [h1, ints_lit h2]
    rfl
theorem fact_lit {H : Hp} {x : Fact} {v : V} (h : Lit H x.d v) : ∃ a, v = .ref a ∧ H a = some (.tup x.v) := by
  cases x with
  | mark m i =>
    simp only [Fact.d, Lit, LitAll] at h
    obtain ⟨a, xs, rfl, e, v1, r1, rfl, rfl, v2, r2, rfl, rfl, v3, r3, rfl, rfl, rfl⟩ := h
    exact ⟨a, rfl, e⟩
  | link c i j =>
    simp only [Fact.d, Lit, LitAll] at h
    obtain ⟨a, xs, rfl, e, v1, r1, rfl, rfl, v2, r2, rfl, rfl, v3, r3, rfl, rfl, v4, r4, rfl, rfl, rfl⟩ := h
    exact ⟨a, rfl, e⟩
theorem facts_lit {H : Hp} : ∀ {fs : List Fact} {xs : List V}, LitAll H (fs.map Fact.d) xs → Tups H xs (fs.map Fact.v)
  | [], _, h => by
    simp only [List.map_nil, LitAll] at h
    rw [h]
    exact .nil
  | m :: r, _, h => by
    simp only [List.map_cons, LitAll] at h
    obtain ⟨v, vs, rfl, h1, h2⟩ := h
    exact .cons (fact_lit h1) (facts_lit h2)
theorem sto_lit {H : Hp} {S : Store} {v : V} (h : Lit H S.d v) : StoAt H v S := by
  simp only [Store.d, Lit, LitAll] at h
  obtain ⟨a, xs, rfl, e, v1, r1, rfl, rfl, v2, r2, rfl, ⟨m, ms, rfl, em, lm⟩, v3, r3, rfl, ⟨c, cs, rfl, ec, lc⟩, v4, r4, rfl, ⟨i, is, rfl, ei, li⟩, v5, r5, rfl, ⟨f, rs, rfl, ef, lf⟩, rfl⟩ := h
  rw [strs_lit lm] at em
  rw [strs_lit lc] at ec
  rw [ints_lit li] at ei
  exact ⟨a, m, c, i, f, rs, rfl, e, em, ec, ei, ef, facts_lit lf⟩
end DQ

set_option Elab.async false
set_option linter.all false
set_option maxRecDepth 100000
set_option maxHeartbeats 1000000
namespace DQ
open PySem PySem.Spec PyProof.Rows L2
/-! ### f(k = v, ..): keywords alone -/
def tCallK0 (m : Nat) (sp : Sp) (gV : List V → List V → List V) (E : L2.St → XK) (tk : TA) : TE := fun σ H Q => tk σ H fun zs H2 => zs.length = m ∧ sp (gV [] zs) H2 Q (E σ)
section
variable {X : Cx} {CX : CXT} {k : Nat} {f : Addr} {fd : FuncData} {ps ks : List Str} {sp : Sp} {E : L2.St → XK} {x : Str} {p pos : Pos} {kws : List Keyword} {tk : TA} {g : List Value → List Value → List Value} {gV : List V → List V → List V}
theorem pe_callK0 (F : FnOk X.prog X.w X.K X.mg X.base CX k f fd ps sp) (hr : Room k X.A) (hg : Gl X x) (hm : X.mg x = some (.ref f)) (hk : PySem.W.keepIn X.K (.ref f) = true) (hb : KBn X.K fd ps 0 ks g gV) (hx : ∀ σ, PassesAt CX X σ (E σ)) (hkw : PK X kws tk)
    (hall : (backToKw pos (keywordEach kws X.env)).all (·.1.isSome) = true := by rfl) (hks : (backToKw pos (keywordEach kws X.env)).filterMap (·.1) = ks := by rfl) (hdb : (x == ("__debug__" : Str)) = false := by decide)
    (hpl : ((backTo pos (starEach [] X.env)).any (·.1) || (backToKw pos (keywordEach kws X.env)).any (·.1.isNone)) = false := by rfl) :
    PE X (.Call (.Name x p) [] kws pos) (tCallK0 ks.length sp gV E tk) := ⟨fun pins s σ H Q I h => by
  refine wpAny_Call_Name_kw (ld_glob I hg hm (PySem.W.callWith_KW0 (h₀ := X.base) I.ok.mod.kin hk hall (thn (hkw.run pos pins s σ H _ I h) fun ws s1 h1 => ?_) hpl) hdb)
  obtain ⟨zs, H1, I1, rz, lz, q1⟩ := h1
  refine ⟨I1.kIn, ?_⟩
  rw [hks]
  have e2 : ws.length = ks.length := rz.length.symm.trans lz
  show wpAny _ _ (call (.ref f) [] (ks.zip ws)) _ _ _
  refine wpAny_call (codeAny_mono (F.run X.A X.stack s1 H1 ⟨[], ks.zip ws⟩ (g [] ws) (gV [] zs) Q (E σ) hr I1.env0 (hb.to s1 [] ws I1.kIn rfl e2) (hb.rel .nil rz) q1) fun r s' hq => ?_)
  cases r with
  | error e => exact hx σ pins H1 s1 e s' I1 hq
  | ok fl =>
    cases fl with
    | ret u => exact I1.after hq
    | next => exact False.elim hq
    | brk => exact False.elim hq
    | cont => exact False.elim hq⟩
end
/-- the second, then the first; the third, the second, the first -/
def turn2 {α : Type} : List α → List α
  | [a, b] => [b, a]
  | l => l
def turn3 {α : Type} : List α → List α
  | [a, b, c] => [c, b, a]
  | l => l
theorem vals_turn2 {vs : List V} {us : List Value} (r : Vals vs us) : Vals (turn2 vs) (turn2 us) := by
  match r with
  | .nil => exact .nil
  | .cons a .nil => exact .cons a .nil
  | .cons a (.cons b .nil) => exact .cons b (.cons a .nil)
  | .cons a (.cons b (.cons c r)) => exact .cons a (.cons b (.cons c r))
theorem vals_turn3 {vs : List V} {us : List Value} (r : Vals vs us) : Vals (turn3 vs) (turn3 us) := by
  match r with
  | .nil => exact .nil
  | .cons a .nil => exact .cons a .nil
  | .cons a (.cons b .nil) => exact .cons a (.cons b .nil)
  | .cons a (.cons b (.cons c .nil)) => exact .cons c (.cons b (.cons a .nil))
  | .cons a (.cons b (.cons c (.cons d r))) => exact .cons a (.cons b (.cons c (.cons d r)))
end DQ

set_option Elab.async false
set_option linter.all false
set_option maxRecDepth 100000
set_option maxHeartbeats 4000000
namespace DQ
open PySem PySem.Spec PyProof.Rows L2
abbrev sNear : Stmt := topS 62
abbrev NNe : List Str := ["store", "odd", "bad", "thing", "told"]
theorem scNear : FnScope NNe [] (defScope sNear) := ⟨rfl, rfl, rfl, by decide +kernel, rfl, by decide +kernel, by decide +kernel⟩
theorem vw : View (fun _ H => H) (fun _ _ => True) := view_all fun _ _ _ _ h => h
theorem EndsSo.on {sp : Sp} {vs : List V} {H H' : Hp} {o : Option (Addr × V)} (h : EndsSo sp vs H o) (s : Same H H') : EndsSo sp vs H' o := fun H1 Q E s1 => h H1 Q E (s.trans s1)
theorem lits_mem {K : PySem.W.Frag} {H : Hp} : ∀ {ds : List PyData} {xs : List V}, LitAll H ds xs → ∀ x ∈ xs, ∃ d ∈ ds, Dp K H x d
  | [], _, h, x, hx => by
    simp only [LitAll] at h
    rw [h] at hx
    cases hx
  | d :: r, _, h, x, hx => by
    simp only [LitAll] at h
    obtain ⟨v, vs, rfl, h1, h2⟩ := h
    rcases List.mem_cons.mp hx with rfl | hx
    · exact ⟨d, List.mem_cons_self .., lit_dp _ _ h1⟩
    · obtain ⟨e, he, q⟩ := lits_mem h2 x hx
      exact ⟨e, List.mem_cons_of_mem _ he, q⟩
theorem lits_len {H : Hp} : ∀ {ds : List PyData} {xs : List V}, LitAll H ds xs → xs.length = ds.length
  | [], _, h => by
    simp only [LitAll] at h
    rw [h]
    rfl
  | d :: r, _, h => by
    simp only [LitAll] at h
    obtain ⟨v, vs, rfl, _, h2⟩ := h
    rw [List.length_cons, List.length_cons, lits_len h2]
theorem in_five {C0 CF CI CL CT C' : Addr} {k : Nat} {v : V} (hk : [C0, CF, CI, CL, CT][k]? = some C') : ∀ (C : Addr) (bad : V), some (C', v) = some (C, bad) → C ∈ [C0, CF, CI, CL, CT] := fun C bad e => by
  injection e with e
  injection e with e _
  rw [← e]
  exact List.mem_of_getElem? hk
theorem op_pow9 {X : Cx} : OpR X (binaryOp .Pow) (fun x y H Q => x = .int 10 ∧ y = .int 9 ∧ Q (.int 1000000000) H) := opr_mono op_pow fun x y H Q h => ⟨10, 9, h.1, h.2.1, ⟨by decide, by decide, by decide⟩, h.2.2⟩
theorem tups_mem {H : Hp} {rs : List V} {fs : List Fact} (tp : Tups H rs (fs.map Fact.v)) {x : V} (hx : x ∈ rs) : ∃ y ∈ fs, ∃ a, x = .ref a ∧ H a = some (.tup y.v) := by
  obtain ⟨j, hj⟩ := List.getElem?_of_mem hx
  obtain ⟨a, t, rfl, ha, hk⟩ := Tups.get tp hj
  obtain ⟨y, hy, rfl⟩ := at_map hk
  exact ⟨y, List.mem_of_getElem? hy, a, rfl, ha⟩
theorem near_shows : ∀ d ∈ nearOdd ++ (nearLinks ++ [Fact.mark "red" 0]).map Fact.d, ShowsZ d ∧ ShowsZ (.list [nearS.d, d]) := fun d hd => by
  have h : ∀ d ∈ nearOdd ++ (nearLinks ++ [Fact.mark "red" 0]).map Fact.d, (d.showable = true ∧ d.depth ≤ 60 ∧ d.shown.length ≤ 1000) ∧ ((PyData.list [nearS.d, d]).showable = true ∧ (PyData.list [nearS.d, d]).depth ≤ 60 ∧ (PyData.list [nearS.d, d]).shown.length ≤ 1000) := by decide +kernel
  obtain ⟨⟨a1, a2, a3⟩, b1, b2, b3⟩ := h d hd
  exact ⟨⟨a1, by omega, Nat.le_trans a3 (by decide)⟩, ⟨b1, by omega, Nat.le_trans b3 (by decide)⟩⟩
section
variable {P : Program} {w : World} {K : PySem.W.Frag} {mg : Str → Option Value} {base : Heap}
def spNear : Sp := fun vs H Q _ => vs = [] ∧ ∀ H', Same H H' → Q (.bl true) H'
theorem ok_near {f fC fO fW dM C0 CF CI CL CT : Addr} {fd dC dO dW : FuncData} (F : Fun K "_law_near_facts_refused" "_law_near_facts_refused" sNear f fd)
    (GC : FnG P w K mg base CX0 10 fC dC ["which", "one", "other"] (spCaughtOf K (askG K dM C0 CF CI CL CT) C0 CF CI CL CT)) (bC : Binds K dC ["which", "one", "other"] []) (kC : PySem.W.keepIn K (.ref fC) = true) (mC : mg "_law_caught" = some (.ref fC))
    (GO : FnG P w K mg base CX0 1 fO dO ["told", "place", "bad"] (spOnly K)) (bO : Binds K dO ["told", "place", "bad"] []) (kO : PySem.W.keepIn K (.ref fO) = true) (mO : mg "_law_only" = some (.ref fO))
    (GW : FnOk P w K mg base (L2.CX P w) 8 fW dW ["store", "item"] (spAsked K C0 (spAddG K CI CT))) (bW : Binds K dW ["store", "item"] []) (kW : PySem.W.keepIn K (.ref fW) = true) (mW : mg "with_item" = some (.ref fW))
    (nd5 : [C0, CF, CI, CL, CT].Nodup) (mR : mg "repr" = none) : FnG P w K mg base CX0 11 f fd [] spNear := by
  refine fun_okG F scNear (fun vs H Q E h => ?_) (fun cdv A outer s H vs Q E hr hG h => ?_)
  · obtain ⟨rfl, _⟩ := h
    rfl
  obtain ⟨rfl, q⟩ := h
  have nd := scNear.nd
  refine ⟨_, pss_cons (ps_set (i := 0) nd rfl (.inl rfl) (l_tup vw (l_cons vw l_str (l_cons vw (l_lst vw (l_cons vw l_str l_nil)) (l_cons vw (l_lst vw (l_cons vw l_str l_nil)) (l_cons vw (l_lst vw (l_cons vw l_int (l_cons vw l_int (l_cons vw l_int l_nil)))) (l_cons vw (l_lst vw (l_cons vw (l_tup vw (l_cons vw l_str (l_cons vw l_str (l_cons vw l_int (l_cons vw l_int l_nil))))) (l_cons vw (l_tup vw (l_cons vw l_str (l_cons vw l_str (l_cons vw l_int (l_cons vw l_int l_nil))))) (l_cons vw (l_tup vw (l_cons vw l_str (l_cons vw l_str (l_cons vw l_int l_nil)))) (l_cons vw (l_tup vw (l_cons vw l_str (l_cons vw l_str (l_cons vw l_int l_nil)))) l_nil))))) l_nil)))))))
    (pss_cons (ps_set (i := 1) nd rfl (.inl rfl) (l_lst vw (l_cons vw (l_tup vw (l_cons vw l_str (l_cons vw l_str (l_cons vw l_bl l_nil)))) (l_cons vw (l_tup vw (l_cons vw l_str (l_cons vw l_str (l_cons vw l_bl l_nil)))) (l_cons vw (l_tup vw (l_cons vw l_str (l_cons vw l_str (l_cons vw l_bl (l_cons vw l_int l_nil))))) (l_cons vw (l_tup vw (l_cons vw l_str (l_cons vw l_str (l_cons vw l_int (l_cons vw l_bl l_nil))))) (l_cons vw (l_tup vw (l_cons vw l_str (l_cons vw l_str (l_cons vw (l_lst vw (l_cons vw l_int l_nil)) l_nil)))) (l_cons vw (l_tup vw (l_cons vw l_str (l_cons vw l_str (l_cons vw l_int (l_cons vw (l_dct vw) l_nil))))) l_nil))))))))
    (pss_cons (ps_for (passes_of rfl) rfl (pi_list (pe_op op_cat (pv 1) (l_lst vw (l_cons vw (l_tup vw (l_cons vw l_str (l_cons vw l_str (l_cons vw l_int (l_cons vw l_int l_nil))))) (l_cons vw (l_tup vw (l_cons vw l_str (l_cons vw l_str (l_cons vw l_int (l_cons vw l_int l_nil))))) (l_cons vw (l_tup vw (l_cons vw l_str (l_cons vw l_str (l_cons vw l_int (l_cons vw l_int l_nil))))) l_nil)))))) (pg_name (i := 2) nd rfl (.inl rfl))
      (pss_one (ps_if (PW.pt (pw_or (pt_not (pt_val (pe_callGd GO (hr.mono (by decide)) hG rfl mO kO bO .nil pass0 (pa_cons (pe_callGd GC hr hG rfl mC kC bC .nil pass0 (pa_cons pe_int (pa_cons (pv 0) (pa_cons (pv 2) pa_nil)))) (pa_cons pe_int (pa_cons (pv 2) pa_nil))))))
        (pw_or1 (pt_not (pt_val (pe_callGd GO (hr.mono (by decide)) hG rfl mO kO bO .nil pass0 (pa_cons (pe_callGd GC hr hG rfl mC kC bC .nil pass0 (pa_cons pe_int (pa_cons (pv 0) (pa_cons (pv 2) pa_nil)))) (pa_cons pe_int (pa_cons (pv 2) pa_nil)))))))) ) (pss_one (ps_ret pe_bl)) pss_nil)))
    (pss_cons (ps_if (pt_not (pt_val (pe_callGd GO (hr.mono (by decide)) hG rfl mO kO bO .nil pass0 (pa_cons (pe_callGd GC hr hG rfl mC kC bC .nil pass0 (pa_cons pe_int (pa_cons (pv 0) (pa_cons (l_tup vw (l_cons vw l_str (l_cons vw l_str (l_cons vw l_int l_nil)))) pa_nil)))) (pa_cons pe_int (pa_cons (l_tup vw (l_cons vw l_str (l_cons vw l_str (l_cons vw l_int l_nil)))) pa_nil)))))) (pss_one (ps_ret pe_bl)) pss_nil)
    (pss_cons (ps_if (pt_cmpR op_ne (pe_callB (call_reprZ (room65 hr) hG) (by rfl) mR (by decide +kernel) (pa_cons (pe_ix (r := rIxT K) ix_tup (pe_callS (E := WE fun _ _ _ _ => False) GW (hr.mono (by decide)) rfl mW kW bW (fun σ => passAt takes0 σ) (pa_cons (pv 0) (pa_cons (pe_op op_pow9 pe_int pe_int) pa_nil))) pe_int (fun _ _ => rfl)) pa_nil)) (pe_callB (call_reprZ (room65 hr) hG) (by rfl) mR (by decide +kernel) (pa_cons (pe_lst (pa_cons pe_int (pa_cons pe_int (pa_cons pe_int (pa_cons (pe_op op_pow9 pe_int pe_int) pa_nil))))) pa_nil)) (nomark _)) (pss_one (ps_ret pe_bl)) pss_nil)
    (pss_cons (ps_set (i := 3) nd rfl (.inl rfl) (pe_lst (pa_cons pe_non pa_nil)))
    (pss_cons (ps_set (i := 4) nd rfl (.inl rfl) (pe_callGd GC hr hG rfl mC kC bC .nil pass0 (pa_cons pe_int (pa_cons (pv 0) (pa_cons (pv 3) pa_nil)))))
    (pss_cons (ps_expr (pe_bm PySem.F.plainAttrs_list PySem.F.slot_list_append PySem.F.type_list_append mt_append (pv 3) (pa_cons pe_int pa_nil)))
    (pss_one (ps_ret (pe_cmpR (op_eqD hr.units) (pe_ix (r := rIxT K) ix_tup (pv 4) pe_int (fun _ _ => rfl)) (pe_lst (pa_cons pe_non (pa_cons pe_int pa_nil))) (nomark _))))))))))), ?_⟩
  refine ⟨trivial, fun sv H1 s1 lit1 => ?_⟩
  have A1 : StoAt H1 sv nearS := sto_lit (S := nearS) lit1
  refine ⟨trivial, fun ov H2 s2 lit2 => ?_⟩
  have lit2 : Lit H2 (.list nearOdd) ov := lit2
  simp only [Lit] at lit2
  obtain ⟨oa, xs, rfl, ea, la⟩ := lit2
  refine ⟨_, rfl, trivial, fun lv H3 s3 lit3 => ?_⟩
  have lit3 : Lit H3 (.list (nearLinks.map Fact.d)) lv := lit3
  simp only [Lit] at lit3
  obtain ⟨lA, ys, rfl, eb, lb⟩ := lit3
  have tl := facts_lit (fs := nearLinks) lb
  have lx : xs.length ≤ 10 := by rw [lits_len la]; decide
  have ly : ys.length ≤ 10 := by rw [tl.length]; decide
  refine ⟨oa, lA, xs, ys, rfl, rfl, s3 _ _ ea, eb, Nat.le_trans (show xs.length + ys.length ≤ 20 by omega) (by decide), fun p np => ?_⟩
  have g4 := same_new np (o := .lst (xs ++ ys))
  have f4 : upd H3 p (.lst (xs ++ ys)) p = some (.lst (xs ++ ys)) := upd_same
  generalize upd H3 p (.lst (xs ++ ys)) = H4 at g4 f4 ⊢
  have s34 := s3.trans g4
  have A4 := stoAt_same (s2.trans s34) A1
  have each : ∀ x ∈ xs ++ ys, ∃ d, Dp K H4 x d ∧ ShowsZ d ∧ ShowsZ (.list [nearS.d, d]) ∧ ∀ n : Int, n = 0 ∨ n = 1 → EndsSo (askG K dM C0 CF CI CL CT) [.int n, sv, x] H4 (some (CF, x)) := fun x hx => by
    rcases List.mem_append.mp hx with h | h
    · obtain ⟨d, hd, dp⟩ := lits_mem (K := K) la x h
      obtain ⟨z1, z2⟩ := near_shows d (List.mem_append_left _ hd)
      exact ⟨d, dp_same s34 _ _ dp, z1, z2, fun n hn => ends_noFact hn A4 near_drawn (by decide) (dp_same s34 _ _ dp) (near_parts d hd) (near_bad d hd)⟩
    · obtain ⟨y, hy, a, rfl, ha⟩ := tups_mem tl h
      obtain ⟨z1, z2⟩ := near_shows y.d (List.mem_append_right _ (List.mem_map.mpr ⟨y, List.mem_append_left _ hy, rfl⟩))
      refine ⟨y.d, fact_dp (g4 _ _ ha), z1, z2, fun n hn => ?_⟩
      rcases hn with rfl | rfl
      · exact ends_noPut A4 near_drawn (by decide) ⟨a, rfl, g4 _ _ ha⟩ (near_ok y (List.mem_append_left _ hy)) (near_noPut y (List.mem_append_left _ hy))
      · exact ends_noTake A4 near_drawn (by decide) ⟨a, rfl, g4 _ _ ha⟩ (near_ok y (List.mem_append_left _ hy)) (near_noTake y hy)
  refine ⟨p, rfl, ⟨_, SqL.of f4⟩, for_list (K := K) (a := p) (xs := xs ++ ys) (fun k σ H' => ∃ y, σ = [some sv, some (.ref oa), y, none, none] ∧ Same H4 H') ⟨none, rfl, fun _ _ h => h⟩ (fun k σ H' _ hP => ?_) (fun k x σ H' hx hP => ?_) fun σ H' hP => ?_⟩
  · obtain ⟨y, rfl, s'⟩ := hP
    exact SqL.of (s' _ _ f4)
  · obtain ⟨y, rfl, s'⟩ := hP
    obtain ⟨d, dp, z1, z2, en⟩ := each x (List.mem_of_getElem? hx)
    have inF : ∀ (C : Addr) (bad : V), some (CF, x) = some (C, bad) → C ∈ [C0, CF, CI, CL, CT] := fun C bad e => by
      injection e with e
      injection e with e _
      rw [← e]
      simp
    have dpS : Dp K H' sv nearS.d := store_dp (stoAt_same s' A4)
    refine ⟨_, rfl, _, rfl, ⟨.int 0, sv, x, nearS.d, d, some (CF, x), rfl, dpS, dp_same s' _ _ dp, z2, inF, (en 0 (.inl rfl)).on s', fun T L H5 s5 hT hL => ?_⟩⟩
    have hL := hL.trans (congrArg some (congrArg HO.lst (flags_at nd5 (k := 1) rfl)))
    refine ⟨_, rfl, T, L, x, x, d, 1, rfl, hT, hL, dp_same (s'.trans s5) _ _ dp, dp_same (s'.trans s5) _ _ dp, z1, fun H6 s6 => ?_⟩
    have s46 := (s'.trans s5).trans s6
    refine ⟨_, rfl, ite2 (fun c => absurd c (by simp)) fun _ => ?_⟩
    refine ⟨_, rfl, _, rfl, ⟨.int 1, sv, x, nearS.d, d, some (CF, x), rfl, store_dp (stoAt_same s46 A4), dp_same s46 _ _ dp, z2, inF, (en 1 (.inr rfl)).on s46, fun T2 L2 H7 s7 hT2 hL2 => ?_⟩⟩
    have hL2 := hL2.trans (congrArg some (congrArg HO.lst (flags_at nd5 (k := 1) rfl)))
    refine ⟨_, rfl, T2, L2, x, x, d, 1, rfl, hT2, hL2, dp_same (s46.trans s7) _ _ dp, dp_same (s46.trans s7) _ _ dp, z1, fun H8 s8 => ?_⟩
    exact ⟨_, rfl, ite2 (fun c => absurd c (by simp)) fun _ => ⟨_, rfl, (s46.trans s7).trans s8⟩⟩
  obtain ⟨y, rfl, s'⟩ := hP
  have A5 := stoAt_same s' A4
  -- a fact that stands there
  refine ⟨_, rfl, trivial, fun mv H6 s6 lit6 => ?_⟩
  obtain ⟨ma, rfl, hma⟩ := fact_lit (x := .mark "red" 0) lit6
  have mem : (Fact.mark "red" 0) ∈ nearLinks ++ [Fact.mark "red" 0] := List.mem_append_right _ (List.mem_singleton.mpr rfl)
  obtain ⟨z1, z2⟩ := near_shows (Fact.mark "red" 0).d (List.mem_append_right _ (List.mem_map.mpr ⟨_, mem, rfl⟩))
  have A6 := stoAt_same s6 A5
  refine ⟨.int 0, sv, .ref ma, nearS.d, (Fact.mark "red" 0).d, some (CF, .ref ma), rfl, store_dp A6, fact_dp hma, z2, in_five (k := 1) rfl, ends_noPut A6 near_drawn (by decide) ⟨ma, rfl, hma⟩ (near_ok _ mem) (near_noPut _ mem), fun T L H7 s7 hT hL => ?_⟩
  have hL := hL.trans (congrArg some (congrArg HO.lst (flags_at nd5 (k := 1) rfl)))
  refine ⟨trivial, fun mv2 H8 s8 lit8 => ?_⟩
  obtain ⟨ma2, rfl, hma2⟩ := fact_lit (x := .mark "red" 0) lit8
  refine ⟨T, L, .ref ma, .ref ma2, (Fact.mark "red" 0).d, 1, rfl, s8 _ _ hT, s8 _ _ hL, fact_dp (s8 _ _ (s7 _ _ hma)), fact_dp hma2, z1, fun H9 s9 => ?_⟩
  have A9 := stoAt_same ((s7.trans s8).trans s9) A6
  refine ⟨_, rfl, ite2 (fun c => absurd c (by simp)) fun _ => ?_⟩
  -- the greatest item
  have e9 : (10 : Int) ^ (9 : Int).toNat = 1000000000 := by decide
  have shI : ShowsZ (.list (([0, 1, 2, 1000000000] : List Int).map PyData.int)) := by
    have h : (PyData.list (([0, 1, 2, 1000000000] : List Int).map PyData.int)).showable = true ∧ (PyData.list (([0, 1, 2, 1000000000] : List Int).map PyData.int)).depth ≤ 60 ∧ (PyData.list (([0, 1, 2, 1000000000] : List Int).map PyData.int)).shown.length ≤ 1000 := by decide +kernel
    exact ⟨h.1, by omega, Nat.le_trans h.2.2 (by decide)⟩
  refine ⟨_, rfl, rfl, rfl, sv, .int 1000000000, rfl, .inr ⟨3, nearS, by decide, near_drawn, A9, fun H10 s10 => ⟨sv, .int 1000000000, 3, nearS, .int 1000000000, rfl, stoAt_same s10 A9, near_drawn, by decide, .int _, fun b => absurd b (by decide +kernel), fun i e1 e2 h1 h2 => ⟨fun l => absurd l (by decide), fun _ v' H11 s11 N => ?_⟩⟩⟩⟩
  injection e2 with e2
  subst e2
  obtain ⟨t, m', c', i', f', rs, rfl, ht, hm', hc', hi', _⟩ := N
  have so : sortI (nearS.items ++ [1000000000]) = [0, 1, 2, 1000000000] := sortI_id (by decide)
  have hi' : H11 i' = some (.lst ((sortI (nearS.items ++ [1000000000])).map V.int)) := hi'
  rw [so] at hi'
  refine ⟨t, _, 3, .ref i', rfl, rfl, .inl (.inl ht), atI_nat (j := 3) rfl, .ref i', .list (([0, 1, 2, 1000000000] : List Int).map PyData.int), rfl, .lst (SqL.of hi') (dp_ints _), shI, ?_⟩
  refine ⟨rfl, rfl, by show 4 ≤ sizeLine; decide, fun p5 n5 => ?_⟩
  have g12 := same_new n5 (o := .lst [V.int 0, V.int 1, V.int 2, V.int 1000000000])
  have f12 : upd H11 p5 (.lst [V.int 0, V.int 1, V.int 2, V.int 1000000000]) p5 = some (.lst [V.int 0, V.int 1, V.int 2, V.int 1000000000]) := upd_same
  have A12 := stoAt_same ((s10.trans s11).trans g12) A9
  have sH : Same H (upd H11 p5 (.lst [V.int 0, V.int 1, V.int 2, V.int 1000000000])) := ((((((s1.trans s2).trans s34).trans s').trans s6).trans ((s7.trans s8).trans s9)).trans (s10.trans s11)).trans g12
  refine ⟨.ref p5, .list (([0, 1, 2, 1000000000] : List Int).map PyData.int), rfl, .lst (SqL.of f12) (dp_ints [0, 1, 2, 1000000000]), shI, ?_⟩
  generalize (PyData.list (([0, 1, 2, 1000000000] : List Int).map PyData.int)).shown = zI
  refine ⟨rfl, _, rfl, ite2 (fun c => absurd c (by simp)) fun _ => ?_⟩
  generalize upd H11 p5 (.lst [V.int 0, V.int 1, V.int 2, V.int 1000000000]) = H12 at g12 f12 A12 sH ⊢
  -- the value told is the one handed in
  refine ⟨by show 1 ≤ sizeLine; decide, fun tp ntp => ?_⟩
  have g13 := same_new ntp (o := .lst [V.non])
  have f13 : upd H12 tp (.lst [V.non]) tp = some (.lst [V.non]) := upd_same
  generalize upd H12 tp (.lst [V.non]) = H13 at g13 f13 ⊢
  have A13 := stoAt_same g13 A12
  have dpT : Dp K H13 (.ref tp) (.list [.none]) := .lst (SqL.of f13) (.cons .non .nil)
  have shT : ShowsZ (.list [nearS.d, .list [.none]]) := by
    have h : (PyData.list [nearS.d, .list [.none]]).showable = true ∧ (PyData.list [nearS.d, .list [.none]]).depth ≤ 60 ∧ (PyData.list [nearS.d, .list [.none]]).shown.length ≤ 1000 := by decide +kernel
    exact ⟨h.1, by omega, Nat.le_trans h.2.2 (by decide)⟩
  refine ⟨_, rfl, _, rfl, .int 4, sv, .ref tp, nearS.d, .list [.none], some (CL, .ref tp), rfl, store_dp A13, dpT, shT, in_five (k := 3) rfl, ends_noEdits A13 near_drawn (by decide) dpT (fun ds e => by
    injection e with e
    subst e
    exact ⟨by decide, fun x hx z t h => by rw [List.mem_singleton] at hx; rw [hx] at h; cases h⟩) rfl, fun T3 L3 H14 s14 hT3 hL3 => ?_⟩
  have e14 := s14 _ _ f13
  refine ⟨_, rfl, .inl ⟨rfl, _, SqL.of e14⟩, tp, [.non], _, rfl, rfl, e14, by decide, ?_⟩
  have neT : T3 ≠ tp := fun e => by
    rw [e, e14] at hT3
    cases hT3
  have s15 : Same H12 (upd H14 tp (.lst [V.non, V.int 7])) := same_upd (g13.trans s14) ntp
  have f15 : upd H14 tp (.lst [V.non, V.int 7]) tp = some (.lst [V.non, V.int 7]) := upd_same
  have hT15 : upd H14 tp (.lst [V.non, V.int 7]) T3 = some (.tup [.ref L3, .ref tp]) := (upd_ne neT).trans hT3
  refine ⟨_, rfl, T3, _, 1, .ref tp, rfl, rfl, .inl (.inl hT15), atI_nat (j := 1) rfl, by show 2 ≤ sizeLine; decide, fun p6 n6 => ?_⟩
  have g16 := same_new n6 (o := .lst [V.non, V.int 7])
  refine ⟨.list [.none, .int 7], .list [.none, .int 7], .lst (SqL.of (g16 _ _ f15)) (.cons .non (.cons (.int 7) .nil)), .lst (SqL.of upd_same) (.cons .non (.cons (.int 7) .nil)), by decide +kernel, by decide +kernel, ?_⟩
  exact q _ ((sH.trans s15).trans g16)
end
end DQ

set_option Elab.async false
set_option linter.all false
set_option maxRecDepth 100000
set_option maxHeartbeats 1000000
namespace DQ
open PySem PySem.Spec PyProof.Rows L2
/-! ### what the law hands in as facts -/
def oddD (free : Int) (col : Str) : List PyData := [.none, .int 7, .str "mark", .tuple [], .tuple [.str "mark"], .tuple [.str "mark", .str "gone", .int free], .tuple [.str "link", .str col, .int free, .int free], .list [.str "mark", .str "red", .int 1], .tuple [.str "link", .str col, .bool true, .int free]]
theorem odd_bad {ms cs : List Str} {ns : List Int} {free : Int} {col : Str} (nf : free ∉ ns) : ∀ d ∈ oddD free col, isFactD ms cs ns d = false := fun d hd => by
  have o1 : okItem ns (.int free) = false := by simp [okItem, nf]
  have o2 : okItem ns (.bool true) = false := by simp [okItem, numD]
  simp only [oddD, List.mem_cons, List.not_mem_nil, or_false] at hd
  rcases hd with rfl | rfl | rfl | rfl | rfl | rfl | rfl | rfl | rfl
  · rfl
  · rfl
  · rfl
  · rfl
  · rfl
  · simp only [isFactD, List.all_cons, o1, Bool.false_and, Bool.and_false]
  · simp only [isFactD, List.all_cons, o1, Bool.false_and, Bool.and_false]
  · rfl
  · simp only [isFactD, List.all_cons, o2, Bool.false_and, Bool.and_false]
theorem odd_parts {free : Int} {col : Str} (hc : col ∈ drawnWords) : ∀ d ∈ oddD free col, Parts d := fun d hd ds e x hx => by
  subst e
  have sc : SeqAt.shaped (.str col) = true := (sm_word hc).shaped (by decide)
  have s1 : SeqAt.shaped (.str "mark") = true := by decide +kernel
  have s2 : SeqAt.shaped (.str "link") = true := by decide +kernel
  have s3 : SeqAt.shaped (.str "gone") = true := by decide +kernel
  have two : ∀ a b : PyData, SeqAt.shaped a = true → SeqAt.shaped b = true → ∀ r : List PyData, ∀ x ∈ (a :: b :: r).take 2, SeqAt.shaped x = true := fun a b h1 h2 r x hx => by
    simp only [List.take_succ_cons, List.take_zero, List.mem_cons, List.not_mem_nil, or_false] at hx
    rcases hx with rfl | rfl
    · exact h1
    · exact h2
  simp only [oddD, List.mem_cons, List.not_mem_nil, or_false, PyData.tuple.injEq, reduceCtorEq, false_or, or_false] at hd
  rcases hd with rfl | rfl | rfl | rfl | rfl
  · cases hx
  · simp only [List.take_succ_cons, List.take_nil, List.mem_cons, List.not_mem_nil, or_false] at hx
    rw [hx]
    exact s1
  · exact two _ _ s1 s3 _ x hx
  · exact two _ _ s2 sc _ x hx
  · exact two _ _ s2 sc _ x hx
end DQ

set_option Elab.async false
set_option linter.all false
set_option maxRecDepth 100000
set_option maxHeartbeats 1000000
namespace DQ
open PySem PySem.Spec PyProof.Rows L2
/-! ### what the law hands in as lists of edits -/
def addD (free : Int) : PyData := .tuple [.str "add", .int free]
def noEditsD (free : Int) : List PyData := [.none, .int 7, .str "put", .tuple [addD free], .list [.none], .list [.list [.str "add", .int free]], .list [.tuple [.str "add"]], .list [.tuple [.str "add", .int free, .int 1]], .list [.tuple [.str "lay", .int free]], .list [.tuple [.none, .int free]], .dict [], .list [addD free, .int 5]]
theorem lay_no (y : PyData) : editD (.tuple [.str "lay", y]) = false := by
  show decide ((("lay" : Str) = "put") ∨ (("lay" : Str) = "take") ∨ (("lay" : Str) = "add") ∨ (("lay" : Str) = "drop")) = false
  decide +kernel
theorem noEdits_bad {free : Int} : ∀ d ∈ noEditsD free, editsD d = false := fun d hd => by
  simp only [noEditsD, List.mem_cons, List.not_mem_nil, or_false] at hd
  rcases hd with rfl | rfl | rfl | rfl | rfl | rfl | rfl | rfl | rfl | rfl | rfl | rfl
  · rfl
  · rfl
  · rfl
  · rfl
  · rfl
  · rfl
  · rfl
  · rfl
  · simp only [editsD, List.all_cons, lay_no, Bool.false_and]
  · rfl
  · rfl
  · simp only [editsD, List.all_cons, List.all_nil, show editD (.int 5) = false from rfl, Bool.false_and, Bool.and_false]
theorem known_str {K : PySem.W.Frag} {w : World} {dM fp ft fa fd : Addr} (M : Makers K w dM fp ft fa fd) (lay : PySem.W.nsIn K dM "lay" = some none) {z : Str} (hz : z ∈ (["put", "take", "add", "drop", "lay"] : List Str)) (y : PyData) : Known K dM (.tuple [.str z, y]) := Known.of M lay fun x y' e => by
  injection e with e
  injection e with e1 _
  injection e1 with e1
  rw [← e1]
  exact hz
theorem known_other {K : PySem.W.Frag} {dM : Addr} {d : PyData} (h : ∀ x y, d ≠ .tuple [.str x, y]) : Known K dM d := fun x y e => absurd e (h x y)
end DQ

set_option Elab.async false
set_option linter.all false
set_option maxRecDepth 100000
set_option maxHeartbeats 1000000
namespace DQ
open PySem PySem.Spec PyProof.Rows L2
/-! ### the full store, and roads from it -/
theorem full_len : fullS.items.length = 2000 := by
  show ((List.range 2000).map fun i : Nat => (i : Int)).length = 2000
  rw [List.length_map, List.length_range]
theorem full_mem {i : Int} : i ∈ fullS.items ↔ 0 ≤ i ∧ i < 2000 := by
  constructor
  · intro h
    obtain ⟨k, hk, rfl⟩ := List.mem_map.mp h
    have := List.mem_range.mp hk
    omega
  · intro h
    exact List.mem_map.mpr ⟨i.toNat, List.mem_range.mpr (by omega), by omega⟩
def lessS : Store := { fullS with items := fullS.items.filter fun j => decide (j ≠ 5) }
theorem less_drawn : Drawn 2000 lessS := by
  have D := full_drawn
  exact ⟨D.marks, D.columns, ⟨D.items.1.sublist List.filter_sublist, fun x hx => D.items.2 x (List.mem_filter.mp hx).1⟩, Nat.le_trans (List.length_filter_le _ _) D.few, D.short, D.rise, (fun x h => by cases h), fun c => oneToOne_nil _⟩
theorem less_few : lessS.items.length < 2000 := by
  have h5 : (5 : Int) ∈ fullS.items := full_mem.mpr (by omega)
  have h : lessS.items.length < fullS.items.length := by
    show (fullS.items.filter fun j => decide (j ≠ 5)).length < fullS.items.length
    exact List.length_filter_lt_length_iff_exists.mpr ⟨5, h5, by decide⟩
  rw [full_len] at h
  exact h
section
variable {K : PySem.W.Frag} {CF CI CT : Addr}
/-- an item less, another more -/
theorem road_full {H : Hp} {a b : Addr} (ha : H a = some (.tup [.str "drop", .int 5])) (hb : H b = some (.tup [.str "add", .int 2000])) : RoadSo K CF CI CT [.ref a, .ref b] fullS H none :=
  road_drop ha full_drawn (by decide) (full_mem.mpr (by omega)) rfl (road_add (S := lessS) hb less_drawn (by decide) (by decide) (fun h => by
    have z := full_mem.mp (List.mem_filter.mp h).1
    omega) less_few road_end)
end
end DQ

set_option Elab.async false
set_option linter.all false
set_option maxRecDepth 100000
set_option maxHeartbeats 1000000
namespace DQ
open PySem PySem.Spec PyProof.Rows L2
/-! ### a display whose parts are constants and names: one promise for the whole -/
inductive VD where
  | v (x : V)
  | l (ds : List VD)
  | t (ds : List VD)
mutual
def VLit (H : Hp) : VD → V → Prop
  | .v x, y => y = x
  | .l ds, y => ∃ (a : Addr) (xs : List V), y = .ref a ∧ H a = some (.lst xs) ∧ VLitAll H ds xs
  | .t ds, y => ∃ (a : Addr) (xs : List V), y = .ref a ∧ H a = some (.tup xs) ∧ VLitAll H ds xs
def VLitAll (H : Hp) : List VD → List V → Prop
  | [], xs => xs = []
  | d :: ds, xs => ∃ (v : V) (vs : List V), xs = v :: vs ∧ VLit H d v ∧ VLitAll H ds vs
end
mutual
theorem vlit_same {H H' : Hp} (e : Same H H') : ∀ (d : VD) (v : V), VLit H d v → VLit H' d v
  | .v x, _, h => by simpa only [VLit] using h
  | .l ds, _, h => by
    simp only [VLit] at h ⊢
    obtain ⟨a, xs, r, ha, hx⟩ := h
    exact ⟨a, xs, r, e _ _ ha, vlitAll_same e ds _ hx⟩
  | .t ds, _, h => by
    simp only [VLit] at h ⊢
    obtain ⟨a, xs, r, ha, hx⟩ := h
    exact ⟨a, xs, r, e _ _ ha, vlitAll_same e ds _ hx⟩
theorem vlitAll_same {H H' : Hp} (e : Same H H') : ∀ (ds : List VD) (vs : List V), VLitAll H ds vs → VLitAll H' ds vs
  | [], _, h => by simpa only [VLitAll] using h
  | d :: ds, _, h => by
    simp only [VLitAll] at h ⊢
    obtain ⟨v, vs, r, h1, h2⟩ := h
    exact ⟨v, vs, r, vlit_same e d _ h1, vlitAll_same e ds _ h2⟩
end
theorem vlitAll_len {H : Hp} : ∀ {ds : List VD} {vs : List V}, VLitAll H ds vs → vs.length = ds.length
  | [], _, h => by
    simp only [VLitAll] at h
    rw [h]
    rfl
  | d :: ds, _, h => by
    simp only [VLitAll] at h
    obtain ⟨v, vs, r, h1, h2⟩ := h
    rw [r, List.length_cons, List.length_cons, vlitAll_len h2]
/-- what a slot holds -/
def slotV (i : Nat) (σ : L2.St) : V := match σ[i]? with
  | some (some v) => v
  | _ => .non
def SlotsIn (is : List Nat) (σ : L2.St) : Prop := ∀ i ∈ is, ∃ v, σ[i]? = some (some v)
def tV (is : List Nat) (d : L2.St → VD) : TE := fun σ H Q => SlotsIn is σ ∧ ∀ v H', Same H H' → VLit H' (d σ) v → Q v H'
def tVs (is : List Nat) (ds : L2.St → List VD) : TA := fun σ H Q => SlotsIn is σ ∧ ∀ vs H', Same H H' → VLitAll H' (ds σ) vs → Q vs H'
section
variable {X : Cx} {is : List Nat} {pos : Pos}
theorem v_int {i : Int} {j} : PE X (.Constant (.int i) j pos) (tV is fun _ => .v (.int i)) := pe_mono pe_int fun σ H Q h => h.2 _ H (L2.Same.refl H) (by simp only [VLit])
theorem v_bl {b : Bool} {j} : PE X (.Constant (.bool b) j pos) (tV is fun _ => .v (.bl b)) := pe_mono pe_bl fun σ H Q h => h.2 _ H (L2.Same.refl H) (by simp only [VLit])
theorem v_non {j} : PE X (.Constant .none j pos) (tV is fun _ => .v .non) := pe_mono pe_non fun σ H Q h => h.2 _ H (L2.Same.refl H) (by simp only [VLit])
theorem v_str {x : Str} {j} : PE X (.Constant (.str x) j pos) (tV is fun _ => .v (.str x)) := pe_mono pe_str fun σ H Q h => h.2 _ H (L2.Same.refl H) (by simp only [VLit])
theorem v_neg {i : Int} {j pos'} : PE X (.UnaryOp .USub (.Constant (.int i) j pos') pos) (tV is fun _ => .v (.int (-i))) := pe_mono (pe_un un_neg pe_int) fun σ H Q h => ⟨i, rfl, h.2 _ H (L2.Same.refl H) (by simp only [VLit])⟩
theorem v_var {x : Str} {i : Nat} (h : PE X (.Name x pos) (tVar i)) (m : i ∈ is) : PE X (.Name x pos) (tV is fun σ => .v (slotV i σ)) := pe_mono h fun σ H Q q => by
  obtain ⟨k, e⟩ := q.1 i m
  refine ⟨_, e, q.2 _ H (L2.Same.refl H) ?_⟩
  simp only [VLit, slotV]
  rw [e]
theorem v_nil : PA X [] (tVs is fun _ => []) := pa_mono pa_nil fun σ H Q h => h.2 _ H (L2.Same.refl H) (by simp only [VLitAll])
theorem v_cons {e : Expr} {es : List Expr} {d : L2.St → VD} {ds : L2.St → List VD} (he : PE X e (tV is d)) (hr : PA X es (tVs is ds)) (hs : starEach (e :: es) X.env = (false, eval e X.env) :: starEach es X.env := by rfl) : PA X (e :: es) (tVs is fun σ => d σ :: ds σ) :=
  pa_mono (pa_cons he hr hs) fun σ H Q h => ⟨h.1, fun v H1 s1 l1 => ⟨h.1, fun vs H2 s2 l2 => h.2 _ H2 (s1.trans s2) (by
    simp only [VLitAll]
    exact ⟨v, vs, rfl, vlit_same s2 _ _ l1, l2⟩)⟩⟩
theorem v_lst {es : List Expr} {ds : L2.St → List VD} (h : PA X es (tVs is ds)) (few : ∀ σ, (ds σ).length ≤ 1000 := by intro _; exact Nat.le_of_ble_eq_true rfl) : PE X (.List es pos) (tV is fun σ => .l (ds σ)) := pe_mono (pe_lst h) fun σ H Q q => ⟨q.1, fun vs H1 s1 l1 => ⟨by
    rw [vlitAll_len l1]
    exact Nat.le_trans (few σ) (by decide), fun p np => q.2 _ _ (s1.trans (same_new np)) (by
    simp only [VLit]
    exact ⟨p, vs, rfl, upd_same, vlitAll_same (same_new np) _ _ l1⟩)⟩⟩
theorem v_tup {es : List Expr} {ds : L2.St → List VD} {k} (h : PA X es (tVs is ds)) (few : ∀ σ, (ds σ).length ≤ 1000 := by intro _; exact Nat.le_of_ble_eq_true rfl) : PE X (.Tuple es k pos) (tV is fun σ => .t (ds σ)) := pe_mono (pe_tup h) fun σ H Q q => ⟨q.1, fun vs H1 s1 l1 => ⟨by
    rw [vlitAll_len l1]
    exact Nat.le_trans (few σ) (by decide), fun p np => q.2 _ _ (s1.trans (same_new np)) (by
    simp only [VLit]
    exact ⟨p, vs, rfl, upd_same, vlitAll_same (same_new np) _ _ l1⟩)⟩⟩
end
end DQ

set_option Elab.async false
set_option linter.all false
set_option maxRecDepth 100000
set_option maxHeartbeats 1000000
namespace DQ
open PySem PySem.Spec PyProof.Rows L2
/-! ### small data, dicts among it: what repr wants -/
structure SmZ (k n : Nat) (d : PyData) : Prop where
  dep : d.depth ≤ k
  wt : d.weight ≤ n
  sh : d.showable = true
  short : d.leavesShort 13 = true
theorem Sm.z {k n : Nat} {d : PyData} (h : Sm k n d) : SmZ k n d := ⟨h.dep, h.wt, h.sh, PyData.leavesShort_of_canLay0 13 d h.lay h.short⟩
theorem SmZ.mono {k n k' n' : Nat} {d : PyData} (h : SmZ k n d) (hk : k ≤ k') (hn : n ≤ n') : SmZ k' n' d := ⟨Nat.le_trans h.dep hk, Nat.le_trans h.wt hn, h.sh, h.short⟩
theorem SmZ.shows {k n : Nat} {d : PyData} (h : SmZ k n d) (hk : k ≤ 64) (hn : n ≤ 1048576) : ShowsZ d :=
  ⟨h.sh, Nat.le_trans h.dep hk, PyData.shown_fits (B := 13) (by decide) (by decide) h.short (Nat.le_trans h.wt (by simpa using hn))⟩
theorem smz_dct : SmZ 1 1 (.dict []) := ⟨by decide, by decide, rfl, rfl⟩
structure SmZL (k n : Nat) (ds : List PyData) : Prop where
  dep : PyData.depthAll ds ≤ k
  wt : PyData.weightAll ds ≤ n
  sh : PyData.showableAll ds = true
  short : PyData.leavesShortAll 13 ds = true
theorem smzl_nil {k : Nat} : SmZL k 0 [] := ⟨Nat.zero_le _, Nat.le_refl _, rfl, rfl⟩
theorem SmZ.cons {k j a b : Nat} {d : PyData} {ds : List PyData} (x : SmZ j a d) (r : SmZL k b ds) (hj : j ≤ k) : SmZL k (a + 1 + b) (d :: ds) := by
  refine ⟨?_, ?_, ?_, ?_⟩
  · simp only [PyData.depthAll]
    exact Nat.max_le.mpr ⟨Nat.le_trans x.dep hj, r.dep⟩
  · simp only [PyData.weightAll]
    have := x.wt
    have := r.wt
    omega
  · simp only [PyData.showableAll]
    rw [x.sh, r.sh]
    rfl
  · simp only [PyData.leavesShortAll]
    rw [x.short, r.short]
    rfl
theorem SmZL.list {k n : Nat} {ds : List PyData} (h : SmZL k n ds) : SmZ (k + 1) n (.list ds) := by
  refine ⟨?_, by simpa only [PyData.weight] using h.wt, by simpa only [PyData.showable] using h.sh, by simpa only [PyData.leavesShort] using h.short⟩
  simp only [PyData.depth]
  have := h.dep
  omega
theorem SmZL.tuple {k n : Nat} {ds : List PyData} (h : SmZL k n ds) : SmZ (k + 1) n (.tuple ds) := by
  refine ⟨?_, by simpa only [PyData.weight] using h.wt, by simpa only [PyData.showable] using h.sh, by simpa only [PyData.leavesShort] using h.short⟩
  simp only [PyData.depth]
  have := h.dep
  omega
theorem smz_pair {n m : Nat} {d e : PyData} (h : SmZ 60 n d) (h' : SmZ 60 m e) (hn : n + m ≤ 1000000) : ShowsZ (.list [d, e]) := ((h.cons (h'.cons smzl_nil (Nat.le_refl _)) (Nat.le_refl _)).list).shows (by decide) (by omega)
/-- data whose numbers are small, by a look -/
def tinyB (d : PyData) : Bool := decide (d.depth ≤ 60) && (decide (d.weight ≤ 1000) && (d.showable && d.leavesShort 13))
theorem tiny {d : PyData} (h : tinyB d = true) : SmZ 60 1000 d := by
  unfold tinyB at h
  simp only [Bool.and_eq_true, decide_eq_true_eq] at h
  exact ⟨h.1, h.2.1, h.2.2.1, h.2.2.2⟩
end DQ

set_option Elab.async false
set_option linter.all false
set_option maxRecDepth 100000
set_option maxHeartbeats 1000000
namespace DQ
open PySem PySem.Spec PyProof.Rows L2
/-! ### one question of the law: a call, the place of its error's class, the value that the error has -/
def four : List Str := ["put", "take", "add", "drop"]
theorem editD_of {z : Str} (h : z ∈ four) (y : PyData) : editD (.tuple [.str z, y]) = true := by
  simp only [four, List.mem_cons, List.not_mem_nil, or_false] at h
  exact decide_eq_true h
theorem editsD_of {ds : List PyData} (h : ∀ e ∈ ds, editD e = true) : editsD (.list ds) = true := List.all_eq_true.mpr h
/-- an edit that is written down: its word, its value, the value's data, its place -/
structure WEd where
  z : Str
  x : V
  d : PyData
  b : Addr
def WEd.data (p : WEd) : PyData := .tuple [.str p.z, p.d]
def WEd.At (K : PySem.W.Frag) (H : Hp) (p : WEd) : Prop := p.z ∈ four ∧ H p.b = some (.tup [.str p.z, p.x]) ∧ Dp K H p.x p.d
theorem WEd.At.same {K : PySem.W.Frag} {H H' : Hp} {p : WEd} (h : p.At K H) (s : Same H H') : p.At K H' := ⟨h.1, s _ _ h.2.1, dp_same s _ _ h.2.2⟩
theorem wed_dp {K : PySem.W.Frag} {H : Hp} : ∀ {ps : List WEd}, (∀ p ∈ ps, p.At K H) → DpAll K H (ps.map fun p => V.ref p.b) (ps.map WEd.data)
  | [], _ => .nil
  | p :: r, h => by
    obtain ⟨_, h2, h3⟩ := h p (List.mem_cons_self ..)
    exact .cons (.tup (.inl (.inl h2)) (.cons (.str _) (.cons h3 .nil))) (wed_dp fun q hq => h q (List.mem_cons_of_mem _ hq))
theorem four_sm {z : Str} (h : z ∈ four) : Sm 0 10 (.str z) := by
  simp only [four, List.mem_cons, List.not_mem_nil, or_false] at h
  rcases h with rfl | rfl | rfl | rfl <;> exact sm_str (by decide +kernel) (by decide +kernel)
theorem wed_small {K : PySem.W.Frag} {H : Hp} : ∀ {ps : List WEd}, (∀ p ∈ ps, p.At K H) → (∀ p ∈ ps, SmZ 50 2000 p.d) → SmZL 51 (ps.length * 3000) (ps.map WEd.data)
  | [], _, _ => ⟨Nat.zero_le _, Nat.zero_le _, rfl, rfl⟩
  | p :: r, h, s => by
    have a := (four_sm (h p (List.mem_cons_self ..)).1).z
    have b := s p (List.mem_cons_self ..)
    have t := wed_small (ps := r) (fun q hq => h q (List.mem_cons_of_mem _ hq)) fun q hq => s q (List.mem_cons_of_mem _ hq)
    have u : SmZ 51 2012 p.data := (SmZL.tuple (k := 50) (a.cons (b.cons smzl_nil (Nat.le_refl _)) (by decide))).mono (by decide) (by decide)
    have w := u.cons t (Nat.le_refl _)
    exact ⟨w.dep, Nat.le_trans w.wt (by rw [List.length_cons]; omega), w.sh, w.short⟩
section
variable {K : PySem.W.Frag} {w0 : World} {dM C0 CF CI CL CT fp ft fa' fdr : Addr}
def Ask (K : PySem.W.Frag) (dM C0 CF CI CL CT : Addr) (H : Hp) (n : Int) (v w bad : V) (k : Nat) : Prop := ∃ (d1 d2 db : PyData) (C : Addr), [C0, CF, CI, CL, CT][k]? = some C ∧ Dp K H v d1 ∧ Dp K H w d2 ∧ Dp K H bad db ∧ ShowsZ (.list [d1, d2]) ∧ ShowsZ db ∧ EndsSo (askG K dM C0 CF CI CL CT) [.int n, v, w] H (some (C, bad))
theorem EndsSo.up {sp : Sp} {vs : List V} {H H' : Hp} {o : Option (Addr × V)} (h : EndsSo sp vs H o) (s : Same H H') : EndsSo sp vs H' o := fun H1 Q E s1 => h H1 Q E (s.trans s1)
theorem Ask.same {H H' : Hp} {n : Int} {v w bad : V} {k : Nat} (h : Ask K dM C0 CF CI CL CT H n v w bad k) (s : Same H H') : Ask K dM C0 CF CI CL CT H' n v w bad k := by
  obtain ⟨d1, d2, db, C, hk, h1, h2, h3, s1, s2, en⟩ := h
  exact ⟨d1, d2, db, C, hk, dp_same s _ _ h1, dp_same s _ _ h2, dp_same s _ _ h3, s1, s2, en.up s⟩
theorem ask_caught {H : Hp} {n : Int} {v w bad : V} {k : Nat} {Q : VK} {E : XK} (A : Ask K dM C0 CF CI CL CT H n v w bad k) (nd : [C0, CF, CI, CL, CT].Nodup) (q : ∀ (T L : Addr) (H' : Hp), Same H H' → H' T = some (.tup [.ref L, bad]) → H' L = some (.lst ((at5 k).map V.bl)) → Q (.ref T) H') : spCaughtOf K (askG K dM C0 CF CI CL CT) C0 CF CI CL CT [.int n, v, w] H Q E := by
  obtain ⟨d1, d2, db, C, hk, h1, h2, _, s1, _, en⟩ := A
  exact caught_asks nd hk h1 h2 s1 en q
theorem ask_only {H H' : Hp} {n : Int} {v w bad : V} {k : Nat} {T L : Addr} {Q : VK} {E : XK} (A : Ask K dM C0 CF CI CL CT H n v w bad k) (s : Same H H') (hT : H' T = some (.tup [.ref L, bad])) (hL : H' L = some (.lst ((at5 k).map V.bl))) (q : ∀ H'', Same H' H'' → Q (.bl true) H'') : spOnly K [.ref T, .int (k : Nat), bad] H' Q E := by
  obtain ⟨d1, d2, db, C, hk, h1, h2, h3, _, sb, en⟩ := A
  exact ⟨T, L, bad, bad, db, k, rfl, hT, hL, dp_same s _ _ h3, dp_same s _ _ h3, sb, q⟩
/-- a list of edits, each written down -/
theorem ask_edits {H : Hp} {v bad : V} {a : Addr} {k m : Nat} {S : Store} {C : Addr} {db : PyData} {ps : List WEd} (M : Makers K w0 dM fp ft fa' fdr) (lay : PySem.W.nsIn K dM "lay" = some none) (hk : [C0, CF, CI, CL, CT][k]? = some C) (A0 : StoAt H v S) (D : Drawn m S) (hm : m ≤ 2000) (sS : SmZ 60 500000 S.d)
    (ha : H a = some (.lst (ps.map fun p => V.ref p.b))) (hp : ∀ p ∈ ps, p.At K H) (hs : ∀ p ∈ ps, SmZ 50 2000 p.d) (few : ps.length ≤ 10) (hb : Dp K H bad db) (sb : SmZ 60 2000 db) (r : RoadSo K CF CI CT (ps.map fun p => V.ref p.b) S H (some (C, bad))) : Ask K dM C0 CF CI CL CT H 4 v (.ref a) bad k := by
  have hd : Dp K H (.ref a) (.list (ps.map WEd.data)) := .lst (SqL.of ha) (wed_dp hp)
  have sm := (wed_small hp hs).list.mono (show 51 + 1 ≤ 60 by decide) (show ps.length * 3000 ≤ 30000 by omega)
  refine ⟨_, _, db, C, hk, store_dp A0, hd, hb, smz_pair sS sm (by decide), sb.shows (by decide) (by decide), ends_road A0 D hm hd (fun ds e => ?_) (editsD_of fun e he => ?_) ha r⟩
  · injection e with e
    subst e
    refine ⟨by rw [List.length_map]; omega, fun e he => ?_⟩
    obtain ⟨p, hq, rfl⟩ := List.mem_map.mp he
    refine known_str M lay ?_ _
    have z := (hp p hq).1
    simp only [four, List.mem_cons, List.not_mem_nil, or_false] at z ⊢
    rcases z with z | z | z | z
    · exact .inl z
    · exact .inr (.inl z)
    · exact .inr (.inr (.inl z))
    · exact .inr (.inr (.inr (.inl z)))
  · obtain ⟨p, hq, rfl⟩ := List.mem_map.mp he
    exact editD_of (hp p hq).1 _
/-- what is no list of edits -/
def fiveW (z : Str) : Bool := decide (z ∈ (["put", "take", "add", "drop", "lay"] : List Str))
def knownB : PyData → Bool
  | .tuple [.str z, _] => fiveW z
  | _ => true
def knownsB : PyData → Bool
  | .list ds => decide (ds.length ≤ 100) && ds.all knownB
  | _ => true
theorem knows {d : PyData} (M : Makers K w0 dM fp ft fa' fdr) (lay : PySem.W.nsIn K dM "lay" = some none) (h : knownsB d = true) : ∀ ds, d = .list ds → ds.length ≤ 10000 ∧ ∀ e ∈ ds, Known K dM e := fun ds e => by
  subst e
  have h : (decide (ds.length ≤ 100) && ds.all knownB) = true := h
  rw [Bool.and_eq_true] at h
  refine ⟨Nat.le_trans (of_decide_eq_true h.1) (by decide), fun e he => ?_⟩
  have z := List.all_eq_true.mp h.2 e he
  refine Known.of M lay fun x y q => ?_
  subst q
  exact of_decide_eq_true (show fiveW x = true from z)
theorem ask_noEdits {H : Hp} {v w : V} {m : Nat} {S : Store} {d : PyData} (M : Makers K w0 dM fp ft fa' fdr) (lay : PySem.W.nsIn K dM "lay" = some none) (A0 : StoAt H v S) (D : Drawn m S) (hm : m ≤ 2000) (sS : SmZ 60 500000 S.d) (hd : Dp K H w d) (sd : SmZ 60 2000 d) (kn : knownsB d = true) (bad : editsD d = false) : Ask K dM C0 CF CI CL CT H 4 v w w 3 :=
  ⟨_, d, d, CL, rfl, store_dp A0, hd, hd, smz_pair sS sd (by decide), sd.shows (by decide) (by decide), ends_noEdits A0 D hm hd (knows M lay kn) bad⟩
end
end DQ

set_option Elab.async false
set_option linter.all false
set_option maxRecDepth 100000
set_option maxHeartbeats 4000000
namespace DQ
open PySem PySem.Spec PyProof.Rows L2
abbrev sLists : Stmt := topS 61
theorem scLists : FnScope ["store", "free", "bad"] ["store", "free"] (defScope sLists) := ⟨rfl, rfl, rfl, by decide +kernel, rfl, by decide +kernel, by decide +kernel⟩
theorem l_of {X : Cx} {vw : L2.St → Hp → Hp} {Pre : L2.St → Hp → Prop} {e : Expr} {te : TE} {d : L2.St → PyData} (h : PE X e te) (m : ∀ σ H Q, Pre σ H → (∀ v H', Same H H' → Lit (vw σ H') (d σ) v → Q v H') → te σ H Q) : PE X e (tLit vw Pre d) := pe_mono h fun σ H Q q => m σ H Q q.1 q.2
/-! the values -/
theorem leaf {d : PyData} {n : Nat} (h : Sm 0 n d) (hn : n ≤ 64) : SmZ 0 64 d := (h.mono (Nat.le_refl _) hn).z
theorem smz_lst {k n m : Nat} {ds : List PyData} (h : ∀ d ∈ ds, SmZ k n d) (l : ds.length ≤ m) : SmZ (k + 1) (m * (n + 1)) (.list ds) ∧ SmZ (k + 1) (m * (n + 1)) (.tuple ds) := by
  have z : ∀ ds : List PyData, (∀ d ∈ ds, SmZ k n d) → SmZL k (ds.length * (n + 1)) ds := fun ds => by
    induction ds with
    | nil => exact fun _ => ⟨Nat.zero_le _, Nat.zero_le _, rfl, rfl⟩
    | cons d r ih =>
      intro h
      have w := (h d (List.mem_cons_self ..)).cons (ih fun e he => h e (List.mem_cons_of_mem _ he)) (Nat.le_refl _)
      exact ⟨w.dep, Nat.le_trans w.wt (by rw [List.length_cons, Nat.add_mul]; omega), w.sh, w.short⟩
  have y := z ds h
  have le := Nat.mul_le_mul_right (n + 1) l
  exact ⟨y.list.mono (Nat.le_refl _) le, y.tuple.mono (Nat.le_refl _) le⟩
/-- small, with one number and one word left open -/
inductive TD where
  | i
  | c
  | d (x : PyData)
  | l (ts : List TD)
  | t (ts : List TD)
mutual
def TD.fill (i : Int) (c : Str) : TD → PyData
  | .i => .int i
  | .c => .str c
  | .d x => x
  | .l ts => .list (TD.fillAll i c ts)
  | .t ts => .tuple (TD.fillAll i c ts)
def TD.fillAll (i : Int) (c : Str) : List TD → List PyData
  | [] => []
  | x :: r => x.fill i c :: TD.fillAll i c r
end
mutual
def TD.dep : TD → Nat
  | .i => 0
  | .c => 0
  | .d x => x.depth
  | .l ts => TD.depAll ts + 1
  | .t ts => TD.depAll ts + 1
def TD.depAll : List TD → Nat
  | [] => 0
  | x :: r => max x.dep (TD.depAll r)
end
mutual
def TD.wt : TD → Nat
  | .i => 64
  | .c => 64
  | .d x => x.weight
  | .l ts => TD.wtAll ts
  | .t ts => TD.wtAll ts
def TD.wtAll : List TD → Nat
  | [] => 0
  | x :: r => x.wt + 1 + TD.wtAll r
end
mutual
def TD.ok : TD → Bool
  | .i => true
  | .c => true
  | .d x => x.showable && x.leavesShort 13
  | .l ts => TD.okAll ts
  | .t ts => TD.okAll ts
def TD.okAll : List TD → Bool
  | [] => true
  | x :: r => x.ok && TD.okAll r
end
mutual
theorem td_small {i : Int} {c : Str} (hi : SmZ 0 64 (.int i)) (hc : SmZ 0 64 (.str c)) : ∀ t : TD, t.ok = true → SmZ t.dep t.wt (t.fill i c)
  | .i, _ => hi
  | .c, _ => hc
  | .d x, h => by
    simp only [TD.ok, Bool.and_eq_true] at h
    exact ⟨Nat.le_refl _, Nat.le_refl _, h.1, h.2⟩
  | .l ts, h => by
    simp only [TD.ok] at h
    simp only [TD.fill, TD.dep, TD.wt]
    exact (td_smalls hi hc ts h).list
  | .t ts, h => by
    simp only [TD.ok] at h
    simp only [TD.fill, TD.dep, TD.wt]
    exact (td_smalls hi hc ts h).tuple
theorem td_smalls {i : Int} {c : Str} (hi : SmZ 0 64 (.int i)) (hc : SmZ 0 64 (.str c)) : ∀ ts : List TD, TD.okAll ts = true → SmZL (TD.depAll ts) (TD.wtAll ts) (TD.fillAll i c ts)
  | [], _ => smzl_nil
  | x :: r, h => by
    simp only [TD.okAll, Bool.and_eq_true] at h
    have a := td_small hi hc x h.1
    have b := td_smalls hi hc r h.2
    simp only [TD.fillAll, TD.depAll, TD.wtAll]
    exact (a.mono (Nat.le_max_left _ _) (Nat.le_refl _)).cons ⟨Nat.le_trans b.dep (Nat.le_max_right _ _), b.wt, b.sh, b.short⟩ (Nat.le_refl _)
end
def TD.small (t : TD) : Bool := decide (t.dep ≤ 50) && (decide (t.wt ≤ 2000) && t.ok)
theorem fill_small {i : Int} {c : Str} (hi : SmZ 0 64 (.int i)) (hc : SmZ 0 64 (.str c)) {t : TD} (h : t.small = true) : SmZ 50 2000 (t.fill i c) := by
  unfold TD.small at h
  simp only [Bool.and_eq_true, decide_eq_true_eq] at h
  exact (td_small hi hc t h.2.2).mono h.1 h.2.1
theorem fill_all {i : Int} {c : Str} (hi : SmZ 0 64 (.int i)) (hc : SmZ 0 64 (.str c)) {ts : List TD} (h : ts.all TD.small = true) : ∀ d ∈ TD.fillAll i c ts, SmZ 50 2000 d := by
  induction ts with
  | nil => exact fun d hd => by cases hd
  | cons t r ih =>
    rw [List.all_cons, Bool.and_eq_true] at h
    intro d hd
    rcases List.mem_cons.mp hd with rfl | hd
    · exact fill_small hi hc h.1
    · exact ih h.2 d hd
end DQ

set_option Elab.async false
set_option linter.all false
set_option maxRecDepth 100000
set_option maxHeartbeats 1000000
namespace DQ
open PySem PySem.Spec PyProof.Rows L2
def addT : TD := .t [.d (.str "add"), .i]
def noEditsT : List TD := [.d .none, .d (.int 7), .d (.str "put"), .t [addT], .l [.d .none], .l [.l [.d (.str "add"), .i]], .l [.t [.d (.str "add")]], .l [.t [.d (.str "add"), .i, .d (.int 1)]], .l [.t [.d (.str "lay"), .i]], .l [.t [.d .none, .i]], .d (.dict []), .l [addT, .d (.int 5)]]
def odd2T : List TD := [.d .none, .d (.bool true), .d (.str "1"), .d (.int (-1)), .d (.int 1000000001), .i]
def odd3T : List TD := [.d .none, .d (.int 7), .t [.d (.str "mark"), .d (.str "gone"), .i], .t [.d (.str "link"), .d (.str "next"), .i, .d (.int (-1))]]
def odd4T : List TD := [.l [addT, addT, .d (.int 5)], .l [.t [.d (.str "drop"), .d (.int 1000000000)], .d .none], .l [.t [.d (.str "put"), .d .none], .t [.d (.str "lay"), .d (.int 1)]]]
def odd2D (free : Int) : List PyData := [.none, .bool true, .str "1", .int (-1), .int 1000000001, .int free]
def odd3D (free : Int) : List PyData := [.none, .int 7, .tuple [.str "mark", .str "gone", .int free], .tuple [.str "link", .str "next", .int free, .int (-1)]]
def odd4D (free : Int) : List PyData := [.list [addD free, addD free, .int 5], .list [.tuple [.str "drop", .int 1000000000], .none], .list [.tuple [.str "put", .none], .tuple [.str "lay", .int 1]]]
section
variable {free : Int}
theorem free_small (h0 : 0 ≤ free) (h1 : free ≤ 1000000000) : SmZ 0 64 (.int free) := leaf (sm_item ⟨h0, h1⟩) (Nat.le_refl _)
theorem next_small : SmZ 0 64 (.str "next") := leaf (n := 10) (sm_str (by decide +kernel) (by decide +kernel)) (by decide)
theorem noEdits_small (h0 : 0 ≤ free) (h1 : free ≤ 1000000000) : ∀ d ∈ noEditsD free, SmZ 50 2000 d := fill_all (ts := noEditsT) (c := "next") (free_small h0 h1) next_small (by decide +kernel)
theorem odd2_small (h0 : 0 ≤ free) (h1 : free ≤ 1000000000) : ∀ d ∈ odd2D free, SmZ 50 2000 d := fill_all (ts := odd2T) (c := "next") (free_small h0 h1) next_small (by decide +kernel)
theorem odd3_small (h0 : 0 ≤ free) (h1 : free ≤ 1000000000) : ∀ d ∈ odd3D free, SmZ 50 2000 d := fill_all (ts := odd3T) (c := "next") (free_small h0 h1) next_small (by decide +kernel)
theorem odd4_small (h0 : 0 ≤ free) (h1 : free ≤ 1000000000) : ∀ d ∈ odd4D free, SmZ 50 2000 d := fill_all (ts := odd4T) (c := "next") (free_small h0 h1) next_small (by decide +kernel)
theorem w_put : fiveW "put" = true := by decide +kernel
theorem w_take : fiveW "take" = true := by decide +kernel
theorem w_add : fiveW "add" = true := by decide +kernel
theorem w_drop : fiveW "drop" = true := by decide +kernel
theorem w_lay : fiveW "lay" = true := by decide +kernel
theorem noEdits_known : ∀ d ∈ noEditsD free, knownsB d = true := fun d hd => by
  simp only [noEditsD, List.mem_cons, List.not_mem_nil, or_false] at hd
  rcases hd with rfl | rfl | rfl | rfl | rfl | rfl | rfl | rfl | rfl | rfl | rfl | rfl <;> simp [knownsB, knownB, addD, w_add, w_lay]
theorem odd4_known : ∀ d ∈ odd4D free, knownsB d = true := fun d hd => by
  simp only [odd4D, List.mem_cons, List.not_mem_nil, or_false] at hd
  rcases hd with rfl | rfl | rfl <;> simp [knownsB, knownB, addD, w_add, w_lay, w_drop, w_put]
theorem odd4_bad : ∀ d ∈ odd4D free, editsD d = false := fun d hd => by
  simp only [odd4D, List.mem_cons, List.not_mem_nil, or_false] at hd
  rcases hd with rfl | rfl | rfl
  · simp only [editsD, List.all_cons, List.all_nil, show editD (.int 5) = false from rfl, Bool.false_and, Bool.and_false]
  · simp only [editsD, List.all_cons, List.all_nil, show editD .none = false from rfl, Bool.false_and, Bool.and_false]
  · simp only [editsD, List.all_cons, List.all_nil, lay_no, Bool.false_and, Bool.and_false]
theorem odd2_bad {ns : List Int} (h0 : 0 ≤ free) (h1 : free ≤ 1000000000) (hf : free ∈ ns) (hn : ∀ x ∈ ns, 0 ≤ x ∧ x ≤ 1000000000) : ∀ d ∈ odd2D free, numD d = false ∨ okItem ns d = true := fun d hd => by
  simp only [odd2D, List.mem_cons, List.not_mem_nil, or_false] at hd
  rcases hd with rfl | rfl | rfl | rfl | rfl | rfl
  · exact .inl rfl
  · exact .inl rfl
  · exact .inl rfl
  · exact .inl (by decide)
  · exact .inl (by decide)
  · exact .inr (okItem_of hn hf)
theorem gone_no {m : Nat} {S : Store} (D : Drawn m S) : hasD S.marks (.str "gone") = false := by
  obtain ⟨k, hk, ek⟩ := D.marks
  have c : k = 0 ∨ k = 1 ∨ k = 2 ∨ k = 3 := by omega
  rw [ek]
  rcases c with rfl | rfl | rfl | rfl <;> decide +kernel
theorem odd3_bad {m : Nat} {S : Store} (D : Drawn m S) (ns : List Int) : ∀ d ∈ odd3D free, isFactD S.marks S.columns ns d = false := fun d hd => by
  have o1 : okItem ns (.int (-1)) = false := by simp [okItem, numD]
  simp only [odd3D, List.mem_cons, List.not_mem_nil, or_false] at hd
  rcases hd with rfl | rfl | rfl | rfl
  · rfl
  · rfl
  · simp only [isFactD, gone_no D, List.length_singleton, if_pos, Bool.and_false, Bool.false_and]
  · simp only [isFactD, List.all_cons, o1, Bool.false_and, Bool.and_false]
theorem odd3_parts : ∀ d ∈ odd3D free, Parts d := fun d hd ds e x hx => by
  subst e
  have s1 : SeqAt.shaped (.str "mark") = true := by decide +kernel
  have s2 : SeqAt.shaped (.str "link") = true := by decide +kernel
  have s3 : SeqAt.shaped (.str "gone") = true := by decide +kernel
  have s4 : SeqAt.shaped (.str "next") = true := by decide +kernel
  have two : ∀ a b : PyData, SeqAt.shaped a = true → SeqAt.shaped b = true → ∀ r : List PyData, ∀ x ∈ (a :: b :: r).take 2, SeqAt.shaped x = true := fun a b h1 h2 r x hx => by
    simp only [List.take_succ_cons, List.take_zero, List.mem_cons, List.not_mem_nil, or_false] at hx
    rcases hx with rfl | rfl
    · exact h1
    · exact h2
  simp only [odd3D, List.mem_cons, List.not_mem_nil, or_false, PyData.tuple.injEq, reduceCtorEq, false_or] at hd
  rcases hd with rfl | rfl
  · exact two _ _ s1 s3 _ x hx
  · exact two _ _ s2 s4 _ x hx
end
end DQ

set_option Elab.async false
set_option linter.all false
set_option maxRecDepth 100000
set_option maxHeartbeats 8000000
namespace DQ
open PySem PySem.Spec PyProof.Rows L2
theorem next_first {m : Nat} {S : Store} (D : Drawn m S) : ∃ r : List Str, S.columns = ("next" : Str) :: r := by
  obtain ⟨k, h1, hk, ek⟩ := D.columns
  have c : k = 1 ∨ k = 2 := by omega
  rw [ek]
  rcases c with rfl | rfl <;> exact ⟨_, rfl⟩
/-- store[2][0] -/
theorem col_read {K : PySem.W.Frag} {m : Nat} {S : Store} {v : V} (D : Drawn m S) (H : Hp) (A : StoAt H v S) (Q : VK) (q : Q (.str "next") H) : rIxT K v (.int 2) H fun x H1 => rIxL K x (.int 0) H1 Q := by
  obtain ⟨r, er⟩ := next_first D
  obtain ⟨t, ma, ca, ia, fa, rs, rfl, ht, hma, hca, hia, hfa, tp⟩ := A
  rw [er] at hca
  exact ⟨t, _, 2, .ref ca, rfl, rfl, .inl (.inl ht), atI_nat (j := 2) rfl, ca, _, 0, .str "next", rfl, rfl, SqL.of hca, atI_nat (j := 0) rfl, q⟩
theorem in_sort {ns : List Int} {i x : Int} (h : x ∈ ns ∨ x = i) : x ∈ sortI (ns ++ [i]) := (sortI_perm _).mem_iff.mpr (by
  rcases h with h | rfl
  · exact List.mem_append_left _ h
  · exact List.mem_append_right _ (List.mem_singleton.mpr rfl))
theorem add_drawn {m : Nat} {S : Store} {i : Int} (D : Drawn m S) (hm : m ≤ 150) (ni : i ∉ S.items) (h0 : 0 ≤ i) (h1 : i ≤ 1000000000) : Drawn (m + 1) { S with items := sortI (S.items ++ [i]) } := step_drawn hm D (e := .add i) (by simp only [step]; rw [if_neg ni]) fun j e => by injection e with e; rw [← e]; exact ⟨h0, h1⟩
theorem numD_of {i : Int} (h0 : 0 ≤ i) (h1 : i ≤ 1000000000) : numD (.int i) = true := by simp [numD, h0, h1]
theorem has_no {m : Nat} {S : Store} {i : Int} (D : Drawn m S) (ni : i ∉ S.items) : hasI S.facts i = false := by
  cases e : hasI S.facts i with
  | false => rfl
  | true =>
    obtain ⟨y, hy, h⟩ := List.any_eq_true.mp e
    have h := of_decide_eq_true h
    have o := D.facts y hy
    cases y with
    | mark c j =>
      have h : i ∈ [j] := h
      rw [List.mem_singleton] at h
      rw [h] at ni
      exact absurd o.2 ni
    | link c a b =>
      have h : i ∈ [a, b] := h
      simp only [List.mem_cons, List.not_mem_nil, or_false] at h
      rcases h with rfl | rfl
      · exact absurd o.2.1 ni
      · exact absurd o.2.2 ni
section
variable {P : Program} {w : World} {K : PySem.W.Frag} {mg : Str → Option Value} {base : Heap}
def spLists : Sp := fun vs H Q _ => ∃ (v : V) (S : Store) (free : Int), vs = [v, .int free] ∧ StoAt H v S ∧ Drawn 9 S ∧ free ∉ S.items ∧ 0 ≤ free ∧ free ≤ 1000000000 ∧ ∀ H', Same H H' → Q (.bl true) H'
theorem ok_lists {f fC fO dM C0 CF CI CL CT fp ft fa' fdr : Addr} {fd dC dO : FuncData} (F : Fun K "_law_lists_refused" "_law_lists_refused" sLists f fd) (M : Makers K w dM fp ft fa' fdr) (lay : PySem.W.nsIn K dM "lay" = some none)
    (GC : FnG P w K mg base CX0 10 fC dC ["which", "one", "other"] (spCaughtOf K (askG K dM C0 CF CI CL CT) C0 CF CI CL CT)) (bC : Binds K dC ["which", "one", "other"] []) (kC : PySem.W.keepIn K (.ref fC) = true) (mC : mg "_law_caught" = some (.ref fC))
    (GO : FnG P w K mg base CX0 1 fO dO ["told", "place", "bad"] (spOnly K)) (bO : Binds K dO ["told", "place", "bad"] []) (kO : PySem.W.keepIn K (.ref fO) = true) (mO : mg "_law_only" = some (.ref fO))
    (nd5 : [C0, CF, CI, CL, CT].Nodup) : FnG P w K mg base CX0 11 f fd ["store", "free"] spLists := by
  refine fun_okG F scLists (fun vs H Q E h => ?_) (fun cdv A outer s H vs Q E hr hG h => ?_)
  · obtain ⟨_, _, _, rfl, _⟩ := h
    rfl
  obtain ⟨v, S, free, rfl, A0, D, nf, h0, h1, q⟩ := h
  have nd := scLists.nd
  have Vw : View (fun _ H => H) (fun σ H => σ[0]? = some (some v) ∧ σ[1]? = some (some (.int free)) ∧ StoAt H v S) := view_all fun σ H H' s h => ⟨h.1, h.2.1, stoAt_same s h.2.2⟩
  have hC := col_read (K := K) (v := v) D
  refine ⟨_, (pss_cons (ps_for (passes_of rfl) rfl (pi_list (l_lst Vw (l_cons Vw l_non (l_cons Vw l_int (l_cons Vw l_str (l_cons Vw (l_tup Vw (l_cons Vw (l_tup Vw (l_cons Vw l_str (l_cons Vw (l_of (d := fun _ => .int free) (pv 1) fun σ H Q p q => ⟨_, p.2.1, q _ H (L2.Same.refl H) (by simp only [Lit])⟩) l_nil))) l_nil)) (l_cons Vw (l_lst Vw (l_cons Vw l_non l_nil)) (l_cons Vw (l_lst Vw (l_cons Vw (l_lst Vw (l_cons Vw l_str (l_cons Vw (l_of (d := fun _ => .int free) (pv 1) fun σ H Q p q => ⟨_, p.2.1, q _ H (L2.Same.refl H) (by simp only [Lit])⟩) l_nil))) l_nil)) (l_cons Vw (l_lst Vw (l_cons Vw (l_tup Vw (l_cons Vw l_str l_nil)) l_nil)) (l_cons Vw (l_lst Vw (l_cons Vw (l_tup Vw (l_cons Vw l_str (l_cons Vw (l_of (d := fun _ => .int free) (pv 1) fun σ H Q p q => ⟨_, p.2.1, q _ H (L2.Same.refl H) (by simp only [Lit])⟩) (l_cons Vw l_int l_nil)))) l_nil)) (l_cons Vw (l_lst Vw (l_cons Vw (l_tup Vw (l_cons Vw l_str (l_cons Vw (l_of (d := fun _ => .int free) (pv 1) fun σ H Q p q => ⟨_, p.2.1, q _ H (L2.Same.refl H) (by simp only [Lit])⟩) l_nil))) l_nil)) (l_cons Vw (l_lst Vw (l_cons Vw (l_tup Vw (l_cons Vw l_non (l_cons Vw (l_of (d := fun _ => .int free) (pv 1) fun σ H Q p q => ⟨_, p.2.1, q _ H (L2.Same.refl H) (by simp only [Lit])⟩) l_nil))) l_nil)) (l_cons Vw (l_dct Vw) (l_cons Vw (l_lst Vw (l_cons Vw (l_tup Vw (l_cons Vw l_str (l_cons Vw (l_of (d := fun _ => .int free) (pv 1) fun σ H Q p q => ⟨_, p.2.1, q _ H (L2.Same.refl H) (by simp only [Lit])⟩) l_nil))) (l_cons Vw l_int l_nil))) l_nil)))))))))))))) (pg_name (i := 2) nd rfl (.inl rfl)) (pss_one (ps_if (pt_not (pt_val (pe_callGd GO (hr.mono (by decide)) hG rfl mO kO bO .nil pass0 (pa_cons (pe_callGd GC (hr.mono (by decide)) hG rfl mC kC bC .nil pass0 (pa_cons pe_int (pa_cons (pv 0) (pa_cons (pv 2) pa_nil)))) (pa_cons pe_int (pa_cons (pv 2) pa_nil)))))) (pss_one (ps_ret pe_bl)) pss_nil)))
     (pss_cons (ps_for (passes_of rfl) rfl (pi_list (l_lst Vw (l_cons Vw l_non (l_cons Vw l_bl (l_cons Vw l_str (l_cons Vw l_neg (l_cons Vw (l_of (d := fun _ => .int 1000000001) (pe_op op_add (pe_op op_pow9 pe_int pe_int) pe_int) fun σ H Q p q => ⟨rfl, rfl, 1000000000, 1, rfl, rfl, q _ H (L2.Same.refl H) (by simp [Lit])⟩) (l_cons Vw (l_of (d := fun _ => .int free) (pv 1) fun σ H Q p q => ⟨_, p.2.1, q _ H (L2.Same.refl H) (by simp only [Lit])⟩) l_nil)))))))) (pg_name (i := 2) nd rfl (.inl rfl)) (pss_one (ps_if (pt_not (pt_val (pe_callGd GO (hr.mono (by decide)) hG rfl mO kO bO .nil pass0 (pa_cons (pe_callGd GC (hr.mono (by decide)) hG rfl mC kC bC .nil pass0 (pa_cons pe_int (pa_cons (pv 0) (pa_cons (v_lst (is := [1, 2]) (v_cons (v_tup (v_cons v_str (v_cons (v_var (pv 1) (by decide)) v_nil))) (v_cons (v_tup (v_cons v_str (v_cons (v_var (pv 2) (by decide)) v_nil))) (v_cons (v_tup (v_cons v_str (v_cons v_non v_nil))) v_nil)))) pa_nil)))) (pa_cons pe_int (pa_cons (pv 2) pa_nil)))))) (pss_one (ps_ret pe_bl)) pss_nil)))
     (pss_cons (ps_for (passes_of rfl) rfl (pi_list (l_lst Vw (l_cons Vw l_non (l_cons Vw l_int (l_cons Vw (l_tup Vw (l_cons Vw l_str (l_cons Vw l_str (l_cons Vw (l_of (d := fun _ => .int free) (pv 1) fun σ H Q p q => ⟨_, p.2.1, q _ H (L2.Same.refl H) (by simp only [Lit])⟩) l_nil)))) (l_cons Vw (l_tup Vw (l_cons Vw l_str (l_cons Vw (l_of (d := fun _ => .str "next") (pe_ix (r := rIxL K) ix_list (pe_ix (r := rIxT K) ix_tup (pv 0) pe_int (fun _ _ => rfl)) pe_int (fun _ _ => rfl)) fun σ H Q p q => ⟨_, p.1, hC H p.2.2 Q (q _ H (L2.Same.refl H) (by simp only [Lit]))⟩) (l_cons Vw (l_of (d := fun _ => .int free) (pv 1) fun σ H Q p q => ⟨_, p.2.1, q _ H (L2.Same.refl H) (by simp only [Lit])⟩) (l_cons Vw l_neg l_nil))))) l_nil)))))) (pg_name (i := 2) nd rfl (.inl rfl)) (pss_one (ps_if (PW.pt (pw_or (pt_not (pt_val (pe_callGd GO (hr.mono (by decide)) hG rfl mO kO bO .nil pass0 (pa_cons (pe_callGd GC (hr.mono (by decide)) hG rfl mC kC bC .nil pass0 (pa_cons pe_int (pa_cons (pv 0) (pa_cons (v_lst (is := [1, 2]) (v_cons (v_tup (v_cons v_str (v_cons (v_var (pv 1) (by decide)) v_nil))) (v_cons (v_tup (v_cons v_str (v_cons (v_var (pv 2) (by decide)) v_nil))) (v_cons (v_tup (v_cons v_str (v_cons v_non v_nil))) v_nil)))) pa_nil)))) (pa_cons pe_int (pa_cons (pv 2) pa_nil)))))) (pw_or1 (pt_not (pt_val (pe_callGd GO (hr.mono (by decide)) hG rfl mO kO bO .nil pass0 (pa_cons (pe_callGd GC (hr.mono (by decide)) hG rfl mC kC bC .nil pass0 (pa_cons pe_int (pa_cons (pv 0) (pa_cons (v_lst (is := [2]) (v_cons (v_tup (v_cons v_str (v_cons (v_var (pv 2) (by decide)) v_nil))) (v_cons (v_tup (v_cons v_str (v_cons v_non v_nil))) v_nil))) pa_nil)))) (pa_cons pe_int (pa_cons (pv 2) pa_nil))))))))) (pss_one (ps_ret pe_bl)) pss_nil)))
     (pss_cons (ps_for (passes_of rfl) rfl (pi_list (l_lst Vw (l_cons Vw (l_lst Vw (l_cons Vw (l_tup Vw (l_cons Vw l_str (l_cons Vw (l_of (d := fun _ => .int free) (pv 1) fun σ H Q p q => ⟨_, p.2.1, q _ H (L2.Same.refl H) (by simp only [Lit])⟩) l_nil))) (l_cons Vw (l_tup Vw (l_cons Vw l_str (l_cons Vw (l_of (d := fun _ => .int free) (pv 1) fun σ H Q p q => ⟨_, p.2.1, q _ H (L2.Same.refl H) (by simp only [Lit])⟩) l_nil))) (l_cons Vw l_int l_nil)))) (l_cons Vw (l_lst Vw (l_cons Vw (l_tup Vw (l_cons Vw l_str (l_cons Vw (l_of (d := fun _ => .int 1000000000) (pe_op op_pow9 pe_int pe_int) fun σ H Q p q => ⟨rfl, rfl, q _ H (L2.Same.refl H) (by simp only [Lit])⟩) l_nil))) (l_cons Vw l_non l_nil))) (l_cons Vw (l_lst Vw (l_cons Vw (l_tup Vw (l_cons Vw l_str (l_cons Vw l_non l_nil))) (l_cons Vw (l_tup Vw (l_cons Vw l_str (l_cons Vw l_int l_nil))) l_nil))) l_nil))))) (pg_name (i := 2) nd rfl (.inl rfl)) (pss_one (ps_if (pt_not (pt_val (pe_callGd GO (hr.mono (by decide)) hG rfl mO kO bO .nil pass0 (pa_cons (pe_callGd GC (hr.mono (by decide)) hG rfl mC kC bC .nil pass0 (pa_cons pe_int (pa_cons (pv 0) (pa_cons (pv 2) pa_nil)))) (pa_cons pe_int (pa_cons (pv 2) pa_nil)))))) (pss_one (ps_ret pe_bl)) pss_nil)))
     (pss_one (ps_ret (pe_callGd GO (hr.mono (by decide)) hG rfl mO kO bO .nil pass0 (pa_cons (pe_callGd GC (hr.mono (by decide)) hG rfl mC kC bC .nil pass0 (pa_cons pe_int (pa_cons (pv 0) (pa_cons (v_lst (is := [1]) (v_cons (v_tup (v_cons v_str (v_cons (v_var (pv 1) (by decide)) v_nil))) (v_cons (v_tup (v_cons v_str (v_cons (v_var (pv 1) (by decide)) v_nil))) (v_cons (v_tup (v_cons v_str (v_cons (v_var (pv 1) (by decide)) v_nil))) v_nil)))) pa_nil)))) (pa_cons pe_int (pa_cons (pv 1) pa_nil)))))))))), ?_⟩
  have sS : SmZ 60 500000 S.d := (sm_store D (by decide)).z.mono (by decide) (by decide)
  have nFree := numD_of h0 h1
  have few : S.items.length < 2000 := Nat.lt_of_le_of_lt D.few (by decide)
  have D1 := add_drawn D (by decide) nf h0 h1
  have in1 : free ∈ sortI (S.items ++ [free]) := in_sort (.inr rfl)
  have sI : SmZ 50 2000 (.int free) := (free_small h0 h1).mono (by decide) (by decide)
  have sN : SmZ 50 2000 .none := sm_none.z.mono (by decide) (by decide)
  have slots2 : ∀ x : V, SlotsIn [2] [some v, some (.int free), some x] := fun x i hi => by
    simp only [List.mem_cons, List.not_mem_nil, or_false] at hi
    subst hi
    exact ⟨_, rfl⟩
  have slots : ∀ x : V, SlotsIn [1, 2] [some v, some (.int free), some x] := fun x i hi => by
    simp only [List.mem_cons, List.not_mem_nil, or_false] at hi
    rcases hi with rfl | rfl <;> exact ⟨_, rfl⟩
  have tadd : ("add" : Str) ∈ four := by simp [four]
  have tput : ("put" : Str) ∈ four := by simp [four]
  have ttake : ("take" : Str) ∈ four := by simp [four]
  have tdrop : ("drop" : Str) ∈ four := by simp [four]
  -- what is no list of edits
  refine ⟨⟨rfl, rfl, A0⟩, fun l1 H1 s1 lit1 => ?_⟩
  have A1 := stoAt_same s1 A0
  have lit1 : Lit H1 (.list (noEditsD free)) l1 := lit1
  simp only [Lit] at lit1
  obtain ⟨la, xs, rfl, ea, lx⟩ := lit1
  refine ⟨la, rfl, ⟨_, SqL.of ea⟩, for_list (K := K) (a := la) (xs := xs) (fun k σ H' => ∃ y, σ = [some v, some (.int free), y] ∧ Same H1 H') ⟨none, rfl, fun _ _ h => h⟩ (fun k σ H' _ hP => ?_) (fun k x σ H' hx hP => ?_) fun σ H' hP => ?_⟩
  · obtain ⟨y, rfl, s'⟩ := hP
    exact SqL.of (s' _ _ ea)
  · obtain ⟨y, rfl, s'⟩ := hP
    obtain ⟨d, hd, dp⟩ := lits_mem (K := K) lx x (List.mem_of_getElem? hx)
    have A := (ask_noEdits (C0 := C0) (CF := CF) (CI := CI) (CL := CL) (CT := CT) M lay A1 D (by decide) sS dp ((noEdits_small h0 h1 d hd).mono (by decide) (by decide)) (noEdits_known d hd) (noEdits_bad d hd)).same s'
    refine ⟨_, rfl, _, rfl, nil_read ?_⟩
    refine ask_caught A nd5 fun T L H5 s5 hT hL => ?_
    refine ⟨_, rfl, nil_read ?_⟩
    refine ask_only A s5 hT hL fun H6 s6 => ?_
    exact ⟨_, rfl, ite2 (fun c => absurd c (by simp)) fun _ => ⟨_, rfl, (s'.trans s5).trans s6⟩⟩
  obtain ⟨y, rfl, s'⟩ := hP
  have s2 := s1.trans s'
  clear s' ea lx
  -- an item that is none, or there
  have A2 := stoAt_same s2 A0
  refine ⟨⟨rfl, rfl, A2⟩, fun l1 H1' s1' lit1 => ?_⟩
  have s3 := s2.trans s1'
  have A3 := stoAt_same s3 A0
  have lit1 : Lit H1' (.list (odd2D free)) l1 := lit1
  simp only [Lit] at lit1
  obtain ⟨lb, xs, rfl, ea, lx⟩ := lit1
  refine ⟨lb, rfl, ⟨_, SqL.of ea⟩, for_list (K := K) (a := lb) (xs := xs) (fun k σ H' => ∃ y, σ = [some v, some (.int free), y] ∧ Same H1' H') ⟨_, rfl, fun _ _ h => h⟩ (fun k σ H' _ hP => ?_) (fun k x σ H' hx hP => ?_) fun σ H' hP => ?_⟩
  · obtain ⟨y, rfl, s'⟩ := hP
    exact SqL.of (s' _ _ ea)
  · obtain ⟨y, rfl, s'⟩ := hP
    obtain ⟨d, hd, dp⟩ := lits_mem (K := K) lx x (List.mem_of_getElem? hx)
    refine ⟨_, rfl, slots x, fun wv H4 s4 lit => ?_⟩
    have lit : VLit H4 (.l [.t [.v (.str "add"), .v (.int free)], .t [.v (.str "add"), .v x], .t [.v (.str "put"), .v .non]]) wv := lit
    simp only [VLit, VLitAll] at lit
    obtain ⟨a, _, rfl, ha, _, _, rfl, ⟨b1, _, rfl, e1, _, _, rfl, rfl, _, _, rfl, rfl, rfl⟩, _, _, rfl, ⟨b2, _, rfl, e2, _, _, rfl, rfl, x, _, rfl, rfl, rfl⟩, _, _, rfl, ⟨b3, _, rfl, e3, _, _, rfl, rfl, _, _, rfl, rfl, rfl⟩, rfl⟩ := lit
    have s34 := s'.trans s4
    have A4 := stoAt_same s34 A3
    have dp4 := dp_same s34 _ _ dp
    have sm := odd2_small h0 h1 d hd
    have A := ask_edits (C0 := C0) (CF := CF) (CI := CI) (CL := CL) (CT := CT) (k := 2) (C := CI) (bad := x) (ps := [⟨"add", .int free, .int free, b1⟩, ⟨"add", x, d, b2⟩, ⟨"put", .non, .none, b3⟩]) M lay rfl A4 D (by decide) sS ha (fun p hp => by
      simp only [List.mem_cons, List.not_mem_nil, or_false] at hp
      rcases hp with rfl | rfl | rfl
      · exact ⟨tadd, e1, .int _⟩
      · exact ⟨tadd, e2, dp4⟩
      · exact ⟨tput, e3, .non⟩) (fun p hp => by
      simp only [List.mem_cons, List.not_mem_nil, or_false] at hp
      rcases hp with rfl | rfl | rfl
      · exact sI
      · exact sm
      · exact sN) (show 3 ≤ 10 by decide) dp4 (sm.mono (by decide) (by decide)) (road_add e1 D (by decide) nFree nf few (road_noAdd e2 D1 (by decide) dp4 (odd2_bad h0 h1 in1 D1.items.2 d hd)))
    refine nil_read ?_
    refine ask_caught A nd5 fun T L H5 s5 hT hL => ?_
    refine ⟨_, rfl, nil_read ?_⟩
    refine ask_only A s5 hT hL fun H6 s6 => ?_
    exact ⟨_, rfl, ite2 (fun c => absurd c (by simp)) fun _ => ⟨_, rfl, (s34.trans s5).trans s6⟩⟩
  obtain ⟨y, rfl, s'⟩ := hP
  have s5 := s3.trans s'
  clear s' ea lx
  -- a fact that is none
  have A5 := stoAt_same s5 A0
  refine ⟨⟨rfl, rfl, A5⟩, fun l1 H2' s2' lit1 => ?_⟩
  have s6 := s5.trans s2'
  have A6 := stoAt_same s6 A0
  have lit1 : Lit H2' (.list (odd3D free)) l1 := lit1
  simp only [Lit] at lit1
  obtain ⟨lc, xs, rfl, ea, lx⟩ := lit1
  refine ⟨lc, rfl, ⟨_, SqL.of ea⟩, for_list (K := K) (a := lc) (xs := xs) (fun k σ H' => ∃ y, σ = [some v, some (.int free), y] ∧ Same H2' H') ⟨_, rfl, fun _ _ h => h⟩ (fun k σ H' _ hP => ?_) (fun k x σ H' hx hP => ?_) fun σ H' hP => ?_⟩
  · obtain ⟨y, rfl, s'⟩ := hP
    exact SqL.of (s' _ _ ea)
  · obtain ⟨y, rfl, s'⟩ := hP
    obtain ⟨d, hd, dp⟩ := lits_mem (K := K) lx x (List.mem_of_getElem? hx)
    have sm := odd3_small h0 h1 d hd
    refine ⟨_, rfl, slots x, fun wv H4 s4 lit => ?_⟩
    have lit : VLit H4 (.l [.t [.v (.str "add"), .v (.int free)], .t [.v (.str "put"), .v x], .t [.v (.str "add"), .v .non]]) wv := lit
    simp only [VLit, VLitAll] at lit
    obtain ⟨a, _, rfl, ha, _, _, rfl, ⟨b1, _, rfl, e1, _, _, rfl, rfl, _, _, rfl, rfl, rfl⟩, _, _, rfl, ⟨b2, _, rfl, e2, _, _, rfl, rfl, x, _, rfl, rfl, rfl⟩, _, _, rfl, ⟨b3, _, rfl, e3, _, _, rfl, rfl, _, _, rfl, rfl, rfl⟩, rfl⟩ := lit
    have s34 := s'.trans s4
    have A4 := stoAt_same s34 A6
    have dp4 := dp_same s34 _ _ dp
    have A := ask_edits (C0 := C0) (CF := CF) (CI := CI) (CL := CL) (CT := CT) (k := 1) (C := CF) (bad := x) (ps := [⟨"add", .int free, .int free, b1⟩, ⟨"put", x, d, b2⟩, ⟨"add", .non, .none, b3⟩]) M lay rfl A4 D (by decide) sS ha (fun p hp => by
      simp only [List.mem_cons, List.not_mem_nil, or_false] at hp
      rcases hp with rfl | rfl | rfl
      · exact ⟨tadd, e1, .int _⟩
      · exact ⟨tput, e2, dp4⟩
      · exact ⟨tadd, e3, .non⟩) (fun p hp => by
      simp only [List.mem_cons, List.not_mem_nil, or_false] at hp
      rcases hp with rfl | rfl | rfl
      · exact sI
      · exact sm
      · exact sN) (show 3 ≤ 10 by decide) dp4 (sm.mono (by decide) (by decide)) (road_add e1 D (by decide) nFree nf few (road_noFact (.inl rfl) e2 D1 (by decide) dp4 (odd3_parts d hd) (odd3_bad D _ d hd)))
    refine nil_read ?_
    refine ask_caught A nd5 fun T L H5 s5 hT hL => ?_
    refine ⟨_, rfl, nil_read ?_⟩
    refine ask_only A s5 hT hL fun H6 s6' => ?_
    refine ⟨_, rfl, ite2 (fun c => absurd c (by simp)) fun _ => ?_⟩
    have s46 := (s34.trans s5).trans s6'
    refine ⟨_, rfl, slots2 x, fun wv H7 s7 lit => ?_⟩
    have lit : VLit H7 (.l [.t [.v (.str "take"), .v x], .t [.v (.str "add"), .v .non]]) wv := lit
    simp only [VLit, VLitAll] at lit
    obtain ⟨a', _, rfl, ha', _, _, rfl, ⟨b2', _, rfl, e2', _, _, rfl, rfl, x, _, rfl, rfl, rfl⟩, _, _, rfl, ⟨b3', _, rfl, e3', _, _, rfl, rfl, _, _, rfl, rfl, rfl⟩, rfl⟩ := lit
    have s47 := s46.trans s7
    have A7 := stoAt_same s47 A6
    have dp7 := dp_same s47 _ _ dp
    have A' := ask_edits (C0 := C0) (CF := CF) (CI := CI) (CL := CL) (CT := CT) (k := 1) (C := CF) (bad := x) (ps := [⟨"take", x, d, b2'⟩, ⟨"add", .non, .none, b3'⟩]) M lay rfl A7 D (by decide) sS ha' (fun p hp => by
      simp only [List.mem_cons, List.not_mem_nil, or_false] at hp
      rcases hp with rfl | rfl
      · exact ⟨ttake, e2', dp7⟩
      · exact ⟨tadd, e3', .non⟩) (fun p hp => by
      simp only [List.mem_cons, List.not_mem_nil, or_false] at hp
      rcases hp with rfl | rfl
      · exact sm
      · exact sN) (show 2 ≤ 10 by decide) dp7 (sm.mono (by decide) (by decide)) (road_noFact (.inr rfl) e2' D (by decide) dp7 (odd3_parts d hd) (odd3_bad D _ d hd))
    refine nil_read ?_
    refine ask_caught A' nd5 fun T L H8 s8 hT hL => ?_
    refine ⟨_, rfl, nil_read ?_⟩
    refine ask_only A' s8 hT hL fun H9 s9 => ?_
    exact ⟨_, rfl, ite2 (fun c => absurd c (by simp)) fun _ => ⟨_, rfl, (s47.trans s8).trans s9⟩⟩
  obtain ⟨y, rfl, s'⟩ := hP
  have s8 := s6.trans s'
  clear s' ea lx
  -- the form of all is judged ahead
  have A8 := stoAt_same s8 A0
  refine ⟨⟨rfl, rfl, A8⟩, fun l1 H3' s3' lit1 => ?_⟩
  have s9 := s8.trans s3'
  have A9 := stoAt_same s9 A0
  have lit1 : Lit H3' (.list (odd4D free)) l1 := lit1
  simp only [Lit] at lit1
  obtain ⟨ld, xs, rfl, ea, lx⟩ := lit1
  refine ⟨ld, rfl, ⟨_, SqL.of ea⟩, for_list (K := K) (a := ld) (xs := xs) (fun k σ H' => ∃ y, σ = [some v, some (.int free), y] ∧ Same H3' H') ⟨_, rfl, fun _ _ h => h⟩ (fun k σ H' _ hP => ?_) (fun k x σ H' hx hP => ?_) fun σ H' hP => ?_⟩
  · obtain ⟨y, rfl, s'⟩ := hP
    exact SqL.of (s' _ _ ea)
  · obtain ⟨y, rfl, s'⟩ := hP
    obtain ⟨d, hd, dp⟩ := lits_mem (K := K) lx x (List.mem_of_getElem? hx)
    have A := (ask_noEdits (C0 := C0) (CF := CF) (CI := CI) (CL := CL) (CT := CT) M lay A9 D (by decide) sS dp ((odd4_small h0 h1 d hd).mono (by decide) (by decide)) (odd4_known d hd) (odd4_bad d hd)).same s'
    refine ⟨_, rfl, _, rfl, nil_read ?_⟩
    refine ask_caught A nd5 fun T L H5 s5 hT hL => ?_
    refine ⟨_, rfl, nil_read ?_⟩
    refine ask_only A s5 hT hL fun H6 s6 => ?_
    exact ⟨_, rfl, ite2 (fun c => absurd c (by simp)) fun _ => ⟨_, rfl, (s'.trans s5).trans s6⟩⟩
  obtain ⟨y, rfl, s'⟩ := hP
  have s10 := s9.trans s'
  have A10 := stoAt_same s10 A0
  clear s' ea lx
  -- an item that is dropped twice
  refine ⟨_, rfl, (fun i hi => by
    simp only [List.mem_cons, List.not_mem_nil, or_false] at hi
    subst hi
    exact ⟨_, rfl⟩), fun wv H4 s4 lit => ?_⟩
  have lit : VLit H4 (.l [.t [.v (.str "add"), .v (.int free)], .t [.v (.str "drop"), .v (.int free)], .t [.v (.str "drop"), .v (.int free)]]) wv := lit
  simp only [VLit, VLitAll] at lit
  obtain ⟨a, _, rfl, ha, _, _, rfl, ⟨b1, _, rfl, e1, _, _, rfl, rfl, _, _, rfl, rfl, rfl⟩, _, _, rfl, ⟨b2, _, rfl, e2, _, _, rfl, rfl, _, _, rfl, rfl, rfl⟩, _, _, rfl, ⟨b3, _, rfl, e3, _, _, rfl, rfl, _, _, rfl, rfl, rfl⟩, rfl⟩ := lit
  have s11 := s10.trans s4
  have A4 := stoAt_same s11 A0
  have no := has_no D nf
  have D2 : Drawn (10 + 1) { S with items := (sortI (S.items ++ [free])).filter fun j => decide (j ≠ free) } := step_drawn (by decide) D1 (e := .drop free) (by simp only [step]; rw [if_pos (by rw [Bool.and_eq_true]; exact ⟨decide_eq_true in1, by rw [no]; rfl⟩)]) fun i e => by cases e
  have gone : okItem ((sortI (S.items ++ [free])).filter fun j => decide (j ≠ free)) (.int free) = false := by
    have : free ∉ (sortI (S.items ++ [free])).filter fun j => decide (j ≠ free) := fun h => by simpa using (List.mem_filter.mp h).2
    simp only [okItem, decide_eq_false this, Bool.and_false]
  have A := ask_edits (C0 := C0) (CF := CF) (CI := CI) (CL := CL) (CT := CT) (k := 2) (C := CI) (bad := .int free) (ps := [⟨"add", .int free, .int free, b1⟩, ⟨"drop", .int free, .int free, b2⟩, ⟨"drop", .int free, .int free, b3⟩]) M lay rfl A4 D (by decide) sS ha (fun p hp => by
      simp only [List.mem_cons, List.not_mem_nil, or_false] at hp
      rcases hp with rfl | rfl | rfl
      · exact ⟨tadd, e1, .int _⟩
      · exact ⟨tdrop, e2, .int _⟩
      · exact ⟨tdrop, e3, .int _⟩) (fun p hp => by
      simp only [List.mem_cons, List.not_mem_nil, or_false] at hp
      rcases hp with rfl | rfl | rfl <;> exact sI) (show 3 ≤ 10 by decide) (.int free) (sI.mono (by decide) (by decide)) (road_add e1 D (by decide) nFree nf few (road_drop e2 D1 (by decide) in1 no (road_noDrop e3 D2 (by decide) (.int free) gone)))
  refine nil_read ?_
  refine ask_caught A nd5 fun T L H5 s5 hT hL => ?_
  refine ⟨_, rfl, nil_read ?_⟩
  refine ask_only A s5 hT hL fun H6 s6 => ?_
  exact q _ ((s11.trans s5).trans s6)
end
end DQ

set_option Elab.async false
set_option linter.all false
set_option maxRecDepth 100000
set_option maxHeartbeats 1000000
namespace DQ
open PySem PySem.Spec PyProof.Rows L2
/-! ### values that are none of the kind: written down, judged no store -/
/-- at v stands what is no store -/
def NoSto (K : PySem.W.Frag) (H : Hp) (v : V) : Prop := ∀ (H' : Hp) (Q : VK) (E : XK), Same H H' → (∀ H'', Same H' H'' → Q (.bl false) H'') → spIsStore K [v] H' Q E
theorem NoSto.same {K : PySem.W.Frag} {H H1 : Hp} {v : V} (h : NoSto K H v) (s : Same H H1) : NoSto K H1 v := fun H' Q E s' q => h H' Q E (s.trans s') q
theorem noSto_of {K : PySem.W.Frag} {H : Hp} {v : V} {d : PyData} (hd : Dp K H v d) (n5 : ∀ ds, d = .tuple ds → ds.length ≠ 5) : NoSto K H v := fun H' Q E s q => ⟨v, rfl, .inl ⟨d, dp_same s _ _ hd, n5, q⟩⟩
theorem litAll_tups {H : Hp} : ∀ {fs : List Fact} {vs : List V}, LitAll H (fs.map Fact.d) vs → Tups H vs (fs.map Fact.v)
  | [], _, h => by
    simp only [List.map_nil, LitAll] at h
    rw [h]
    exact .nil
  | f :: fs, _, h => by
    simp only [List.map_cons, LitAll] at h
    obtain ⟨v, vs, r, h1, h2⟩ := h
    rw [r]
    refine .cons ?_ (litAll_tups h2)
    cases f with
    | mark m i =>
      simp only [Fact.d, Lit, LitAll] at h1
      obtain ⟨a, xs, e, ha, _, _, rfl, rfl, _, _, rfl, rfl, _, _, rfl, rfl, rfl⟩ := h1
      exact ⟨a, e, ha⟩
    | link c p q =>
      simp only [Fact.d, Lit, LitAll] at h1
      obtain ⟨a, xs, e, ha, _, _, rfl, rfl, _, _, rfl, rfl, _, _, rfl, rfl, _, _, rfl, rfl, rfl⟩ := h1
      exact ⟨a, e, ha⟩
/-- what is_store asks of a value in the place of the facts -/
def okFacts : PyData → Bool
  | .list l => decide (l.length ≤ 1000) && l.all fun e => match e with
    | .tuple ds => (ds.take 2).all SeqAt.shaped
    | _ => true
  | _ => true
def okWords : PyData → Bool
  | .list l => decide (l.length ≤ 1000) && l.all fun e => e.canLay0 && match e with
    | .str x => decide (x.length ≤ 1000)
    | _ => true
  | _ => true
def okItems : PyData → Bool
  | .list l => decide (l.length ≤ 5000) && l.all fun e => match e with
    | .str x => decide (x.length ≤ 1000)
    | _ => true
  | _ => true
theorem fits_words {d : PyData} (h : okWords d = true) : Fits d ∧ Lays d := by
  refine ⟨fun ds e => ?_, fun ds e z hz => ?_⟩
  · subst e
    have h : (decide (ds.length ≤ 1000) && ds.all fun e => e.canLay0 && match e with
      | .str x => decide (x.length ≤ 1000)
      | _ => true) = true := h
    rw [Bool.and_eq_true] at h
    refine ⟨Nat.le_trans (of_decide_eq_true h.1) (by decide), fun e he x ex => ?_⟩
    have z := List.all_eq_true.mp h.2 e he
    rw [ex] at z
    rw [Bool.and_eq_true] at z
    exact of_decide_eq_true z.2
  · subst e
    have h : (decide (ds.length ≤ 1000) && ds.all fun e => e.canLay0 && match e with
      | .str x => decide (x.length ≤ 1000)
      | _ => true) = true := h
    rw [Bool.and_eq_true] at h
    have q := List.all_eq_true.mp h.2 z hz
    rw [Bool.and_eq_true] at q
    exact q.1
theorem fits_items {d : PyData} (h : okItems d = true) : Fits d := fun ds e => by
  subst e
  have h : (decide (ds.length ≤ 5000) && ds.all fun e => match e with
    | .str x => decide (x.length ≤ 1000)
    | _ => true) = true := h
  rw [Bool.and_eq_true] at h
  refine ⟨Nat.le_trans (of_decide_eq_true h.1) (by decide), fun e he x ex => ?_⟩
  have z := List.all_eq_true.mp h.2 e he
  rw [ex] at z
  exact of_decide_eq_true z
theorem factsAt_lit {K : PySem.W.Frag} {H : Hp} {d : PyData} {v : V} (l : Lit H d v) (h : okFacts d = true) : FactsAt K H v d := by
  cases d with
  | list ds =>
    have l0 := l
    simp only [Lit] at l0
    obtain ⟨a, xs, r, ha, hx⟩ := l0
    have h : (decide (ds.length ≤ 1000) && ds.all fun e => match e with
      | .tuple ds => (ds.take 2).all SeqAt.shaped
      | _ => true) = true := h
    rw [Bool.and_eq_true] at h
    refine .inl ⟨a, xs, ds, r, rfl, SqL.of ha, litAll_dp _ _ hx, Nat.le_trans (of_decide_eq_true h.1) (by decide), fun e he ts et z hz => ?_, fun fs e => ?_⟩
    · have q := List.all_eq_true.mp h.2 e he
      rw [et] at q
      exact List.all_eq_true.mp q z hz
    · rw [e] at hx
      exact litAll_tups hx
  | _ => exact .inr ⟨lit_dp _ _ l, by simp only [isT, tyN]; decide⟩
/-- a tuple of the form of a store -/
theorem noSto_five {K : PySem.W.Frag} {H : Hp} {t : Addr} {z : Str} {m c i f : V} {dm dc di df : PyData} (ht : H t = some (.tup [.str z, m, c, i, f])) (lz : SeqAt.shaped (.str z) = true) (hm : Dp K H m dm) (om : Fits dm ∧ Lays dm) (hc : Dp K H c dc) (oc : Fits dc ∧ Lays dc) (hi : Dp K H i di) (oi : Fits di) (hf : FactsAt K H f df)
    (no : isStoreD (.str z) dm dc di df = false) : NoSto K H (.ref t) := fun H' Q E s q =>
  ⟨_, rfl, .inr ⟨t, .str z, m, c, i, f, .str z, dm, dc, di, df, rfl, .inl (.inl (s _ _ ht)), .str z, lz, dp_same s _ _ hm, om.1, om.2, dp_same s _ _ hc, oc.1, oc.2, dp_same s _ _ hi, oi, factsAt_same s hf, fun H'' s' => by
    rw [no]
    exact q H'' s'⟩⟩
/-- a value that is no store and can be shown -/
def Bent (K : PySem.W.Frag) (H : Hp) (v : V) : Prop := ∃ d, Dp K H v d ∧ ShowsZ d ∧ NoSto K H v
theorem Bent.same {K : PySem.W.Frag} {H H1 : Hp} {v : V} (h : Bent K H v) (s : Same H H1) : Bent K H1 v := by
  obtain ⟨d, hd, sh, no⟩ := h
  exact ⟨d, dp_same s _ _ hd, sh, no.same s⟩
/-- the values found so far, at F; g's place stands apart -/
def Found (K : PySem.W.Frag) (F g : Addr) (n : Nat) (H : Hp) : Prop := H g ≠ none ∧ ∃ rs : List V, H F = some (.lst rs) ∧ rs.length ≤ n ∧ ∀ v ∈ rs, Bent K (del (del H F) g) v
theorem Found.same {K : PySem.W.Frag} {F g : Addr} {n : Nat} {H H' : Hp} (h : Found K F g n H) (s : Same H H') : Found K F g n H' := by
  obtain ⟨hg, rs, e, l, b⟩ := h
  refine ⟨fun z => ?_, rs, s _ _ e, l, fun v hv => (b v hv).same (same_del (same_del s))⟩
  cases q : H g with
  | none => exact hg q
  | some o =>
    rw [s _ _ q] at z
    cases z
theorem del_upd {F : Addr} {H : Hp} {o : HO} : del (upd H F o) F = del H F := funext fun b => by
  by_cases z : b = F
  · rw [z, del_same, del_same]
  · rw [del_ne z, del_ne z, upd_ne z]
theorem Found.put {K : PySem.W.Frag} {F g : Addr} {n m : Nat} {H : Hp} {rs : List V} {v : V} (h : Found K F g n H) (e : H F = some (.lst rs)) (b : Bent K (del (del H F) g) v) (ne : F ≠ g) (hm : n + 1 ≤ m) : Found K F g m (upd H F (.lst (rs ++ [v]))) := by
  obtain ⟨hg, rs', e', l, al⟩ := h
  rw [e] at e'
  cases e'
  refine ⟨by rw [upd_ne (Ne.symm ne)]; exact hg, rs ++ [v], upd_same, ?_, fun x hx => ?_⟩
  · rw [List.length_append, List.length_singleton]
    omega
  · rw [del_upd]
    rcases List.mem_append.mp hx with hx | hx
    · exact al x hx
    · rw [List.mem_singleton.mp hx]
      exact b
section
variable {X : Cx} {vw : L2.St → Hp → Hp} {Pre : L2.St → Hp → Prop} {pos : Pos}
/-- a text times an int -/
def rMulS : R2 := fun x y H Q => ∃ (z : Str) (n : Int), x = .str z ∧ y = .int n ∧ PySem.MulOk z n ∧ Q (.str (PySem.Txt.mul z n)) H
theorem op_mulS : OpR X (binaryOp .Mult) rMulS := by
  intro pins s σ H x y v u Q I rx ry h
  obtain ⟨z, n, rfl, rfl, ok, q⟩ := h
  obtain ⟨t1, rfl⟩ := rx
  obtain ⟨t2, rfl⟩ := ry
  exact PySem.SB.mul ok fun t' k => ⟨.str _, H, I.tok _, ⟨t', rfl⟩, q⟩
theorem l_mulS {z z' : Str} {n : Int} {j1 j2 p1 p2} (ok : PySem.MulOk z n) (e : PySem.Txt.mul z n = z') : PE X (.BinOp (.Constant (.str z) j1 p1) .Mult (.Constant (.int n) j2 p2) pos) (tLit vw Pre fun _ => .str z') := pe_mono (pe_op op_mulS pe_str pe_int) fun σ H Q h => ⟨z, n, rfl, rfl, ok, by
  rw [e]
  exact h.2 _ H (L2.Same.refl H) (by simp only [Lit])⟩
end
end DQ

set_option Elab.async false
set_option linter.all false
set_option maxRecDepth 100000
set_option maxHeartbeats 1000000
namespace DQ
open PySem PySem.Spec PyProof.Rows L2
/-! ### the parts of a drawn store, once more -/
theorem Sm.showsZ {k n : Nat} {d : PyData} (h : Sm k n d) (hk : k ≤ 64) (hn : n ≤ 1048576) : ShowsZ d :=
  have z := h.shows hk hn
  ⟨z.sh, z.dep, z.sz⟩
theorem same_there {H H' : Hp} {a : Addr} (s : Same H H') (h : H a ≠ none) : H' a ≠ none := by
  cases e : H a with
  | none => exact absurd e h
  | some o => rw [s _ _ e]; simp
theorem same_apart {H : Hp} {F g : Addr} {o : HO} (n : H F = none) : Same (del H g) (del (del (upd H F o) F) g) := fun b u e => by
  by_cases z : b = g
  · rw [z, del_same] at e
    cases e
  · rw [del_ne z] at e ⊢
    rw [del_ne (ne_of_none e n), upd_ne (ne_of_none e n)]
    exact e
/-- something new, seen without g's place -/
theorem new_del {H : Hp} {p g : Addr} {o : HO} (hg : H g ≠ none) (n : H p = none) : del (upd H p o) g p = some o := by
  rw [del_ne (fun e => hg (by rw [← e]; exact n)), upd_same]
theorem okw_marks {m : Nat} {S : Store} (D : Drawn m S) : okWords (.list (S.marks.map PyData.str)) = true := by
  obtain ⟨k, hk, ek⟩ := D.marks
  have c : k = 0 ∨ k = 1 ∨ k = 2 ∨ k = 3 := by omega
  rw [ek]
  rcases c with rfl | rfl | rfl | rfl <;> decide +kernel
theorem okw_columns {m : Nat} {S : Store} (D : Drawn m S) : okWords (.list (S.columns.map PyData.str)) = true := by
  obtain ⟨k, h1, hk, ek⟩ := D.columns
  have c : k = 1 ∨ k = 2 := by omega
  rw [ek]
  rcases c with rfl | rfl <;> decide +kernel
theorem oki_ints {ns : List Int} (h : ns.length ≤ 5000) : okItems (.list (ns.map PyData.int)) = true := by
  show (decide ((ns.map PyData.int).length ≤ 5000) && (ns.map PyData.int).all fun e => match e with
    | .str x => decide (x.length ≤ 1000)
    | _ => true) = true
  rw [List.length_map, decide_eq_true h, Bool.true_and]
  refine List.all_eq_true.mpr fun e he => ?_
  obtain ⟨x, _, rfl⟩ := List.mem_map.mp he
  rfl
theorem facts_at {K : PySem.W.Frag} {H : Hp} {fa : Addr} {rs : List V} {m : Nat} {S : Store} (D : Drawn m S) (hfa : H fa = some (.lst rs)) (tp : Tups H rs (S.facts.map Fact.v)) : FactsAt K H (.ref fa) (.list (S.facts.map Fact.d)) := by
  refine .inl ⟨fa, rs, S.facts.map Fact.d, rfl, rfl, SqL.of hfa, dp_facts tp, by rw [List.length_map]; have := D.short; omega, fun e he => ?_, fun fs e => by rw [← facts_inj e]; exact tp⟩
  obtain ⟨x, hx, rfl⟩ := List.mem_map.mp he
  exact fact_parts x (lay_words _ (D.factWord hx)).1
theorem noSto_any {K : PySem.W.Frag} {H : Hp} {t : Addr} {z m c i f : V} {dz dm dc di df : PyData} (ht : H t = some (.tup [z, m, c, i, f])) (hz : Dp K H z dz) (lz : SeqAt.shaped dz = true) (hm : Dp K H m dm) (om : okWords dm = true) (hc : Dp K H c dc) (oc : okWords dc = true) (hi : Dp K H i di) (oi : okItems di = true) (hf : FactsAt K H f df)
    (no : isStoreD dz dm dc di df = false) : NoSto K H (.ref t) := fun H' Q E s q =>
  ⟨_, rfl, .inr ⟨t, z, m, c, i, f, dz, dm, dc, di, df, rfl, .inl (.inl (s _ _ ht)), dp_same s _ _ hz, lz, dp_same s _ _ hm, (fits_words om).1, (fits_words om).2, dp_same s _ _ hc, (fits_words oc).1, (fits_words oc).2, dp_same s _ _ hi, fits_items oi, factsAt_same s hf, fun H'' s' => by
    rw [no]
    exact q H'' s'⟩⟩
theorem sm_parts' {m : Nat} {S : Store} (D : Drawn m S) (hm : m ≤ 1000) : Sm 0 10 (.str "store") ∧ Sm 1 110 (.list (S.marks.map PyData.str)) ∧ Sm 1 110 (.list (S.columns.map PyData.str)) ∧ Sm 1 65000 (.list (S.items.map PyData.int)) ∧ Sm 2 261000 (.list (S.facts.map Fact.d)) :=
  ⟨sm_str (by decide +kernel) (by decide +kernel), sm_words (fun x h => D.word (.inl h)) D.fewMarks, sm_words (fun x h => D.word (.inr h)) D.fewColumns, sm_items D.items.2 (Nat.le_trans D.few hm), sm_facts D (fun x h => h) D.short⟩
theorem bent_of {K : PySem.W.Frag} {H : Hp} {v : V} {d : PyData} {k n : Nat} (hd : Dp K H v d) (sm : Sm k n d) (hk : k ≤ 64) (hn : n ≤ 1048576) (n5 : ∀ ds, d = .tuple ds → ds.length ≠ 5) : Bent K H v := ⟨d, hd, sm.showsZ hk hn, noSto_of hd n5⟩
theorem new_del2 {H : Hp} {p F g : Addr} {o : HO} (hF : H F ≠ none) (hg : H g ≠ none) (n : H p = none) : del (del (upd H p o) F) g p = some o := by
  rw [del_ne (fun e => hg (by rw [← e]; exact n)), del_ne (fun e => hF (by rw [← e]; exact n)), upd_same]
theorem Found.there {K : PySem.W.Frag} {F g : Addr} {n : Nat} {H : Hp} (h : Found K F g n H) : H F ≠ none ∧ H g ≠ none := by
  obtain ⟨hg, rs, e, _⟩ := h
  exact ⟨by rw [e]; simp, hg⟩
theorem dsub {F g : Addr} {H : Hp} : Same (del (del H F) g) H := (del_sub (F := g) (H := del H F)).trans del_sub
/-- what is put to F leaves the rest -/
theorem same_put {F g : Addr} {H : Hp} {o : HO} : Same (del (del H F) g) (del (del (upd H F o) F) g) := by
  rw [del_upd]
  exact L2.Same.refl _
end DQ

set_option Elab.async false
set_option linter.all false
set_option maxRecDepth 100000
set_option maxHeartbeats 2000000
namespace DQ
open PySem PySem.Spec PyProof.Rows L2
section
variable {X : Cx} {CX : CXT} {k : Nat} {f : Addr} {fd : FuncData} {ps : List Str} {sp : Sp} {dvs : List V} {ds : List Value} {E : XK} {x : Str} {p pos : Pos}
/-- f() of a def that is shown for calls around which no guard is -/
theorem pe_callGd0 (F : FnG X.prog X.w X.K X.mg X.base CX k f fd ps sp) (hr : Room k X.A) (hG : X.A.guards = some []) (hg : Gl X x) (hm : X.mg x = some (.ref f)) (hk : PySem.W.keepIn X.K (.ref f) = true) (hb : Binds X.K fd ps ds) (hd : Vals dvs ds) (hx : Passes CX X E)
    (hdb : (x == ("__debug__" : Str)) = false := by decide) : PE X (.Call (.Name x p) [] [] pos) (tCall sp dvs E tNil) := by
  refine ⟨fun pins s σ H Q I h => ?_⟩
  refine wpAny_Call_Name_kw (ld_glob I hg hm ?_ hdb)
  exact PySem.W.callWith_K0 I.kIn hk (run_fnG (us := []) F hr hG hb hd hx I .nil h)
end
/-! ### the law's own questions -/
theorem word_ed {x : Str} (h : x ∈ drawnWords) : x ∈ editWords := by
  simp only [drawnWords, List.mem_cons, List.not_mem_nil, or_false] at h
  simp only [editWords, List.mem_cons, List.not_mem_nil, or_false]
  rcases h with h | h | h | h | h <;> simp only [h, true_or, or_true]
theorem fact_edOk {m : Nat} {S : Store} (D : Drawn m S) {x : Fact} (h : x ∈ S.facts) : x.word ∈ editWords ∧ ∀ i ∈ x.nums, 0 ≤ i ∧ i ≤ 1000000000 := by
  have o := D.facts x h
  refine ⟨word_ed (D.factWord h), fun i hi => ?_⟩
  cases x with
  | mark c j =>
    have hi : i ∈ [j] := hi
    rw [List.mem_singleton] at hi
    rw [hi]
    exact D.items.2 _ o.2
  | link c a b =>
    have hi : i ∈ [a, b] := hi
    simp only [List.mem_cons, List.not_mem_nil, or_false] at hi
    rcases hi with rfl | rfl
    · exact D.items.2 _ o.2.1
    · exact D.items.2 _ o.2.2
theorem sm_fact' {m : Nat} {S : Store} (D : Drawn m S) {x : Fact} (h : x ∈ S.facts) : SmZ 50 2000 x.d := (sm_fact D h).z.mono (by decide) (by decide)
section
variable {K : PySem.W.Frag} {dM C0 CF CI CL CT : Addr}
theorem ask_bad {H : Hp} {n : Int} {v : V} {d : PyData} (hd : Dp K H v d) (sd : SmZ 60 500000 d) (no : NoSto K H v) : Ask K dM C0 CF CI CL CT H n v .non v 0 :=
  ⟨d, .none, d, C0, rfl, hd, .non, hd, smz_pair sd (sm_none.z.mono (by decide) (Nat.le_refl _)) (by decide), sd.shows (by decide) (by decide), ends_parts fun H1 Q s q => no H1 Q _ s q⟩
variable {H : Hp} {v w : V} {m : Nat} {S : Store} {d : PyData}
theorem ask_noFact {n : Int} (h01 : n = 0 ∨ n = 1) (A0 : StoAt H v S) (D : Drawn m S) (hm : m ≤ 2000) (sS : SmZ 60 500000 S.d) (hd : Dp K H w d) (sd : SmZ 50 2000 d) (ps : Parts d) (bad : isFactD S.marks S.columns S.items d = false) : Ask K dM C0 CF CI CL CT H n v w w 1 :=
  ⟨_, d, d, CF, rfl, store_dp A0, hd, hd, smz_pair sS (sd.mono (by decide) (Nat.le_refl _)) (by decide), sd.shows (by decide) (by decide), ends_noFact h01 A0 D hm hd ps bad⟩
theorem ask_noPut {a : Addr} {x : Fact} (A0 : StoAt H v S) (D : Drawn m S) (hm : m ≤ 150) (sS : SmZ 60 500000 S.d) (ha : H a = some (.tup x.v)) (hx : x ∈ S.facts) : Ask K dM C0 CF CI CL CT H 0 v (.ref a) (.ref a) 1 :=
  ⟨_, x.d, x.d, CF, rfl, store_dp A0, fact_dp ha, fact_dp ha, smz_pair sS ((sm_fact' D hx).mono (by decide) (Nat.le_refl _)) (by decide), (sm_fact' D hx).shows (by decide) (by decide), ends_noPut A0 D hm ⟨a, rfl, ha⟩ (fact_edOk D hx) (by
    simp only [step]
    rw [if_neg]
    rw [decide_eq_true hx]
    simp)⟩
theorem ask_noAdd (A0 : StoAt H v S) (D : Drawn m S) (hm : m ≤ 2000) (sS : SmZ 60 500000 S.d) (hd : Dp K H w d) (sd : SmZ 50 2000 d) (bad : numD d = false ∨ okItem S.items d = true) : Ask K dM C0 CF CI CL CT H 2 v w w 2 :=
  ⟨_, d, d, CI, rfl, store_dp A0, hd, hd, smz_pair sS (sd.mono (by decide) (Nat.le_refl _)) (by decide), sd.shows (by decide) (by decide), ends_noAdd A0 D hm hd bad⟩
theorem ask_noDrop (A0 : StoAt H v S) (D : Drawn m S) (hm : m ≤ 2000) (sS : SmZ 60 500000 S.d) (hd : Dp K H w d) (sd : SmZ 50 2000 d) (bad : okItem S.items d = false ∨ ∃ i, d = .int i ∧ i ∈ S.items ∧ hasI S.facts i = true) : Ask K dM C0 CF CI CL CT H 3 v w w 2 :=
  ⟨_, d, d, CI, rfl, store_dp A0, hd, hd, smz_pair sS (sd.mono (by decide) (Nat.le_refl _)) (by decide), sd.shows (by decide) (by decide), ends_noDrop A0 D hm hd bad⟩
theorem ask_many {i : Int} (A0 : StoAt H v S) (D : Drawn m S) (hm : m ≤ 2000) (sS : SmZ 60 500000 S.d) (h0 : 0 ≤ i) (h1 : i ≤ 1000000000) (ni : i ∉ S.items) (full : 2000 ≤ S.items.length) : Ask K dM C0 CF CI CL CT H 2 v (.int i) (.int ((S.items.length + 1 : Nat) : Int)) 4 :=
  have few := D.few
  have s1 : SmZ 0 64 (.int i) := (sm_item ⟨h0, h1⟩).z
  have s2 : SmZ 0 64 (.int ((S.items.length + 1 : Nat) : Int)) := (sm_int (by omega) (by omega)).z
  ⟨_, .int i, .int ((S.items.length + 1 : Nat) : Int), CT, rfl, store_dp A0, .int _, .int _, smz_pair sS (s1.mono (by decide) (Nat.le_refl _)) (by decide), s2.shows (by decide) (by decide), ends_many A0 D hm (numD_of h0 h1) ni full⟩
end
/-! values that are no items -/
def oddI : List PyData := [.none, .bool true, .str "1", .list [.int 1], .int (-1), .int 1000000001]
theorem oddI_small : ∀ d ∈ oddI, SmZ 50 2000 d := fun d hd => fill_all (i := 0) (c := "next") (ts := oddI.map TD.d) (sm_item (by decide)).z next_small (by decide +kernel) d hd
theorem oddI_bad (ns : List Int) : ∀ d ∈ oddI, numD d = false ∧ okItem ns d = false := fun d hd => by
  have h : ∀ d ∈ oddI, numD d = false := by decide
  exact ⟨h d hd, by simp only [okItem, h d hd, Bool.false_and]⟩
theorem oddD_small {free : Int} (h0 : 0 ≤ free) (h1 : free ≤ 1000000000) : ∀ d ∈ oddD free "next", SmZ 50 2000 d := fill_all (ts := [.d .none, .d (.int 7), .d (.str "mark"), .t [], .t [.d (.str "mark")], .t [.d (.str "mark"), .d (.str "gone"), .i], .t [.d (.str "link"), .c, .i, .i], .l [.d (.str "mark"), .d (.str "red"), .d (.int 1)], .t [.d (.str "link"), .c, .d (.bool true), .i]]) (free_small h0 h1) next_small (by decide +kernel)
theorem item_small {i : Int} (h : 0 ≤ i ∧ i ≤ 1000000000) : SmZ 50 2000 (.int i) := (sm_item h).z.mono (by decide) (by decide)
/-! the full store -/
theorem full_small : SmZ 60 500000 fullS.d := by
  have a : SmZ 0 64 (.str "store") := leaf (n := 10) (sm_str (by decide +kernel) (by decide +kernel)) (by decide)
  have b : SmZ 1 0 (.list []) := smzl_nil.list
  have c : SmZ 1 100 (.list [.str "next"]) := ((next_small.cons smzl_nil (Nat.le_refl _)).list).mono (Nat.le_refl _) (by decide)
  have e : SmZ 1 (2000 * 65) (.list (fullS.items.map PyData.int)) := (smz_lst (k := 0) (n := 64) (m := 2000) (fun d hd => by
    obtain ⟨i, hi, rfl⟩ := List.mem_map.mp hd
    have := full_mem.mp hi
    exact (sm_item ⟨by omega, by omega⟩).z) (by rw [List.length_map, full_len]; exact Nat.le_refl _)).1
  exact ((a.cons (b.cons (c.cons (e.cons (b.cons smzl_nil (k := 50) (by decide)) (by decide)) (by decide)) (by decide)) (by decide)).tuple).mono (by decide) (by decide)
end DQ

set_option Elab.async false
set_option linter.all false
set_option maxRecDepth 100000
set_option maxHeartbeats 2000000
namespace DQ
open PySem PySem.Spec PyProof.Rows L2
theorem lc_none {J : It} {n : Nat} {G : Hp → Prop} {Y : Nat → Hp → V → Hp → Prop} (w : Walk J n G Y) {g : TG} {tt : TT} {te : TE} {vs : List Nat} {σ : L2.St} {H1 : Hp} {D : Addr} {Qd : Hp → Prop} (few : n < sizeLine) (nD : H1 D = none)
    (hG : ∀ H, Same H1 H → G H) (hY : ∀ i H x H', Y i H x H' → Same H H')
    (hs : ∀ i x H H', i < n → Same H1 H → Y i H x H' → ∀ (R : V → Hp → Prop) (N : Hp → Prop), (∀ H4, Same H' H4 → N H4) →
      g x (wipe σ vs) H' fun σ2 H2 => wipe σ2 vs = wipe σ vs ∧ tt σ2 H2 fun b H3 => if b = true then te σ2 H3 R else N H3)
    (hd : ∀ H, Same H1 H → H D = some (.lst []) → Qd H) :
    ∃ W : Nat → Nat → Hp → Prop, (∃ m, W 0 m (upd H1 D (.lst []))) ∧ ∀ i m H, W i m H →
      (J.stop i H ∧ Qd H) ∨ (J.go i H ∧ ∃ Nx : Hp → Prop, (∀ H', Nx H' → ∃ m', m' < m ∧ W (i + 1) m' H') ∧ ∀ x H', J.yld i H x H' → g x (wipe σ vs) H' fun σ2 H2 => wipe σ2 vs = wipe σ vs ∧ tt σ2 H2 fun b H3 =>
        if b = true then te σ2 H3 fun y H4 => ∃ acc, H4 D = some (.lst acc) ∧ acc.length < sizeLine ∧ Nx (upd H4 D (.lst (acc ++ [y]))) else Nx H3) := by
  have z : ∀ k : Nat, (List.replicate k (none : Option V)).filterMap id = [] := fun k => by
    induction k with
    | zero => rfl
    | succ k ih => rw [List.replicate_succ, List.filterMap_cons]; exact ih
  refine lc_opts w (List.replicate n none) (by rw [List.length_replicate]) few nD hG hY (fun i x H H' o hi ho s y R N hR hN => ?_) (fun H s e => hd H s (by rw [z] at e; exact e))
  have ho : o = none := by
    rw [List.getElem?_replicate] at ho
    rw [if_pos hi] at ho
    injection ho with ho
    exact ho.symm
  exact hs i x H H' hi s y R N (hN ho)
theorem dpAll_app {K : PySem.W.Frag} {H : Hp} : ∀ {xs ys : List V} {ds es : List PyData}, DpAll K H xs ds → DpAll K H ys es → DpAll K H (xs ++ ys) (ds ++ es)
  | _, _, _, _, .nil, h => h
  | _, _, _, _, .cons a r, h => .cons a (dpAll_app r h)
theorem c_read {σ : L2.St} {H : Hp} {x : V} {t : TA} {Q : List V → Hp → Prop} (h : t σ H fun xs H2 => Q (x :: xs) H2) : tCons (tC x) t σ H Q := h
/-- no store, and it can be shown -/
def BadV (K : PySem.W.Frag) (H : Hp) (v : V) : Prop := ∃ d, Dp K H v d ∧ SmZ 60 500000 d ∧ NoSto K H v
theorem BadV.same {K : PySem.W.Frag} {H H' : Hp} {v : V} (h : BadV K H v) (s : Same H H') : BadV K H' v := by
  obtain ⟨d, hd, sm, no⟩ := h
  exact ⟨d, dp_same s _ _ hd, sm, no.same s⟩
section
variable {K : PySem.W.Frag} {H : Hp} {m : Nat} {S : Store} {p t ma ca ia fa f2 : Addr} {rs : List V}
theorem badV_flat {v : V} {d : PyData} {n : Nat} (hd : Dp K H v d) (sm : SmZ 50 n d) (hn : n ≤ 500000) (n5 : ∀ ds, d = .tuple ds → ds.length ≠ 5) : BadV K H v := ⟨d, hd, sm.mono (by decide) hn, noSto_of hd n5⟩
theorem badV_four (D : Drawn m S) (hm : m ≤ 1000) (hp : H p = some (.tup [.str "store", .ref ma, .ref ca, .ref ia])) (hma : H ma = some (.lst (S.marks.map V.str))) (hca : H ca = some (.lst (S.columns.map V.str))) (hia : H ia = some (.lst (S.items.map V.int))) : BadV K H (.ref p) := by
  obtain ⟨p1, p2, p3, p4, p5⟩ := sm_parts' D hm
  refine badV_flat (d := .tuple [.str "store", .list (S.marks.map PyData.str), .list (S.columns.map PyData.str), .list (S.items.map PyData.int)]) (.tup (.inl (.inl hp)) (.cons (.str _) (.cons (.lst (SqL.of hma) (dp_texts S.marks)) (.cons (.lst (SqL.of hca) (dp_texts S.columns)) (.cons (.lst (SqL.of hia) (dp_intsL S.items)) .nil)))))
    (((p1.z.cons (p2.z.cons (p3.z.cons (p4.z.cons smzl_nil (k := 49) (by decide)) (by decide)) (by decide)) (by decide)).tuple).mono (Nat.le_refl _) (Nat.le_refl _)) (by decide) fun ds e => by injection e with e; rw [← e]; simp
theorem badV_list (D : Drawn m S) (hm : m ≤ 1000) (hp : H p = some (.lst [.str "store", .ref ma, .ref ca, .ref ia, .ref fa])) (hma : H ma = some (.lst (S.marks.map V.str))) (hca : H ca = some (.lst (S.columns.map V.str))) (hia : H ia = some (.lst (S.items.map V.int))) (hfa : H fa = some (.lst rs)) (tp : Tups H rs (S.facts.map Fact.v)) : BadV K H (.ref p) := by
  obtain ⟨p1, p2, p3, p4, p5⟩ := sm_parts' D hm
  refine badV_flat (d := .list [.str "store", .list (S.marks.map PyData.str), .list (S.columns.map PyData.str), .list (S.items.map PyData.int), .list (S.facts.map Fact.d)]) (.lst (SqL.of hp) (.cons (.str _) (.cons (.lst (SqL.of hma) (dp_texts S.marks)) (.cons (.lst (SqL.of hca) (dp_texts S.columns)) (.cons (.lst (SqL.of hia) (dp_intsL S.items)) (.cons (.lst (SqL.of hfa) (dp_facts tp)) .nil))))))
    (((p1.z.cons (p2.z.cons (p3.z.cons (p4.z.cons (p5.z.cons smzl_nil (k := 49) (by decide)) (by decide)) (by decide)) (by decide)) (by decide)).list).mono (Nat.le_refl _) (Nat.le_refl _)) (by decide) fun ds e => by cases e
theorem fact_sh {m : Nat} {S : Store} (D : Drawn m S) {x : Fact} (hx : x ∈ S.facts) : ∀ ts, x.d = .tuple ts → ∀ z ∈ ts.take 2, SeqAt.shaped z = true := fact_parts x (lay_words _ (D.factWord hx)).1
theorem badV_facts (D : Drawn m S) (hm : m ≤ 1000) (hp : H p = some (.tup [.str "store", .ref ma, .ref ca, .ref ia, .ref f2])) (hma : H ma = some (.lst (S.marks.map V.str))) (hca : H ca = some (.lst (S.columns.map V.str))) (hia : H ia = some (.lst (S.items.map V.int))) (hf2 : H f2 = some (.lst (rs ++ [.non]))) (tp : Tups H rs (S.facts.map Fact.v)) : BadV K H (.ref p) := by
  obtain ⟨p1, p2, p3, p4, p5⟩ := sm_parts' D hm
  have few := D.few
  have short := D.short
  have dpF : DpAll K H (rs ++ [.non]) (S.facts.map Fact.d ++ [.none]) := dpAll_app (dp_facts tp) (.cons .non .nil)
  have smF : SmZ 2 (1001 * 261) (.list (S.facts.map Fact.d ++ [.none])) := (smz_lst (k := 1) (n := 260) (m := 1001) (fun d hd => by
    rcases List.mem_append.mp hd with h | h
    · obtain ⟨x, hx, rfl⟩ := List.mem_map.mp h
      exact (sm_fact D hx).z
    · rw [List.mem_singleton.mp h]
      exact sm_none.z.mono (by decide) (by decide)) (by rw [List.length_append, List.length_map, List.length_singleton]; omega)).1
  have dp : Dp K H (.ref p) (.tuple [.str "store", .list (S.marks.map PyData.str), .list (S.columns.map PyData.str), .list (S.items.map PyData.int), .list (S.facts.map Fact.d ++ [.none])]) := .tup (.inl (.inl hp)) (.cons (.str _) (.cons (.lst (SqL.of hma) (dp_texts S.marks)) (.cons (.lst (SqL.of hca) (dp_texts S.columns)) (.cons (.lst (SqL.of hia) (dp_intsL S.items)) (.cons (.lst (SqL.of hf2) dpF) .nil)))))
  refine ⟨_, dp, ((p1.z.cons (p2.z.cons (p3.z.cons (p4.z.cons (smF.cons smzl_nil (k := 49) (by decide)) (by decide)) (by decide)) (by decide)) (by decide)).tuple).mono (by decide) (by decide), ?_⟩
  refine noSto_any hp (.str _) (p1.shaped (by decide)) (.lst (SqL.of hma) (dp_texts S.marks)) (okw_marks D) (.lst (SqL.of hca) (dp_texts S.columns)) (okw_columns D) (.lst (SqL.of hia) (dp_intsL S.items)) (oki_ints (by omega))
    (.inl ⟨f2, rs ++ [.non], S.facts.map Fact.d ++ [.none], rfl, rfl, SqL.of hf2, dpF, (by rw [List.length_append, List.length_map, List.length_singleton]; omega), (fun e he => by
      rcases List.mem_append.mp he with h | h
      · obtain ⟨x, hx, rfl⟩ := List.mem_map.mp h
        exact fact_sh D hx
      · rw [List.mem_singleton.mp h]
        exact fun ts e => by cases e), fun fs e => ?_⟩) ?_
  · have z : PyData.none ∈ fs.map Fact.d := by rw [← e]; exact List.mem_append_right _ (List.mem_singleton.mpr rfl)
    obtain ⟨x, _, hx⟩ := List.mem_map.mp z
    cases x <;> cases hx
  · have no : ∀ ms cs ns, areFactsD ms cs ns (.list (S.facts.map Fact.d ++ [.none])) = false := fun ms cs ns => by
      simp only [areFactsD, List.all_append, List.all_cons, List.all_nil, show isFactD ms cs ns .none = false from rfl, Bool.false_and, Bool.and_false]
    unfold isStoreD
    simp only [no, Bool.and_false]
theorem badV_neg (hp : H p = some (.tup [.str "store", .ref ma, .ref ca, .ref ia, .ref fa])) (hma : H ma = some (.lst [])) (hca : H ca = some (.lst [])) (hia : H ia = some (.lst [.int (-1)])) (hfa : H fa = some (.lst [])) : BadV K H (.ref p) := by
  have ok : okWords (.list []) = true := by decide +kernel
  have dn : ∀ {a : Addr}, H a = some (.lst []) → Dp K H (.ref a) (.list []) := fun h => .lst (SqL.of h) .nil
  have di : Dp K H (.ref ia) (.list [.int (-1)]) := .lst (SqL.of hia) (.cons (.int _) .nil)
  refine ⟨.tuple [.str "store", .list [], .list [], .list [.int (-1)], .list []], .tup (.inl (.inl hp)) (.cons (.str _) (.cons (dn hma) (.cons (dn hca) (.cons di (.cons (dn hfa) .nil))))), (tiny (by decide +kernel)).mono (Nat.le_refl _) (by decide), ?_⟩
  exact noSto_any hp (.str _) (by decide +kernel) (dn hma) ok (dn hca) ok di (by decide +kernel) (.inl ⟨fa, [], [], rfl, rfl, SqL.of hfa, .nil, Nat.zero_le _, (fun e he => by cases he), fun fs e => by
    have : fs = [] := by
      cases fs with
      | nil => rfl
      | cons x r => cases e
    rw [this]
    exact .nil⟩) (by decide +kernel)
end
end DQ
namespace DQ
open PySem PySem.Spec PyProof.Rows L2
/-! the third part of a fact -/
def Fact.third : Fact → Int
  | .mark _ i => i
  | .link _ a _ => a
theorem third_at (x : Fact) : atI x.v 2 = some (.int x.third) := by cases x <;> rfl
theorem third_in {m : Nat} {S : Store} (D : Drawn m S) {x : Fact} (hx : x ∈ S.facts) : x.third ∈ S.items ∧ hasI S.facts x.third = true := by
  have o := D.facts x hx
  cases x with
  | mark c i => exact ⟨o.2, List.any_eq_true.mpr ⟨_, hx, decide_eq_true (show i ∈ [i] from List.mem_singleton.mpr rfl)⟩⟩
  | link c a b => exact ⟨o.2.1, List.any_eq_true.mpr ⟨_, hx, decide_eq_true (show a ∈ [a, b] from List.mem_cons_self ..)⟩⟩
theorem full_range : rgV 0 2000 = fullS.items.map V.int := by
  unfold rgV fullS
  rw [List.map_map]
  refine List.map_congr_left fun i _ => ?_
  show V.int (0 + (i : Int)) = V.int (i : Int)
  rw [Int.zero_add]
theorem take_in {α : Type} {x : α} {xs : List α} {n : Nat} (h : x ∈ xs.take n) : x ∈ xs := List.mem_of_mem_take h
section
variable {K : PySem.W.Frag} {dM C0 CF CI CL CT : Addr}
/-- a call that ends well -/
theorem caught_none {sp : Sp} {H : Hp} {n v w : V} {d1 d2 : PyData} {Q : VK} {E : XK} (h1 : Dp K H v d1) (h2 : Dp K H w d2) (sh : ShowsZ (.list [d1, d2])) (en : EndsSo sp [n, v, w] H none)
    (q : ∀ (T L : Addr) (H' : Hp), Same H H' → H' T = some (.tup [.ref L, .non]) → H' L = some (.lst [.bl false, .bl false, .bl false, .bl false, .bl false]) → Q (.ref T) H') : spCaughtOf K sp C0 CF CI CL CT [n, v, w] H Q E :=
  ⟨n, v, w, d1, d2, none, rfl, h1, h2, sh, (fun C' b e => by cases e), en, fun T L H' s hT hL => q T L H' s hT (by rw [hL]; simp [flags])⟩
end
theorem near_asks {H : Hp} {Q : VK} {E : XK} (q : ∀ H', Same H H' → Q (.bl true) H') : spNear [] H Q E := ⟨rfl, q⟩
def noErrD : PyData := .tuple [.list [.bool false, .bool false, .bool false, .bool false, .bool false], .none]
theorem noErr_dp {K : PySem.W.Frag} {H : Hp} {T L : Addr} (hT : H T = some (.tup [.ref L, .non])) (hL : H L = some (.lst [.bl false, .bl false, .bl false, .bl false, .bl false])) : Dp K H (.ref T) noErrD :=
  .tup (.inl (.inl hT)) (.cons (.lst (SqL.of hL) (.cons (.bl _) (.cons (.bl _) (.cons (.bl _) (.cons (.bl _) (.cons (.bl _) .nil)))))) (.cons .non .nil))
end DQ

set_option Elab.async false
set_option linter.all false
set_option maxRecDepth 100000
set_option maxHeartbeats 4000000
namespace DQ
open PySem PySem.Spec PyProof.Rows L2
abbrev sItems : Stmt := topS 56
theorem scItems : FnScope ["generator", "most", "item", "found", "turn"] ["generator", "most"] (defScope sItems) := ⟨rfl, rfl, rfl, by decide +kernel, rfl, by decide +kernel, by decide +kernel⟩
section
variable {P : Program} {w : World} {K : PySem.W.Frag} {mg : Str → Option Value} {base : Heap}
def spItems : Sp := fun vs H Q _ => ∃ (g : Addr) (m : Nat) (n : Int), vs = [.ref g, .int m] ∧ m ≤ 100 ∧ Gen H g n ∧ n + 3 * m + 6 ≤ 1073741824 ∧
  ∀ (p : Addr) (ns : List Int) (H' : Hp), Rising ns → ns.length ≤ m → Keep g H H' → H p = none → H' p = some (.lst (ns.map V.int)) → Gen H' g (n + 3 * m + 6) → Q (.ref p) H'
theorem ok_items {f fr : Addr} {fd fdr : FuncData} (F : Fun K "_law_drawn_items" "_law_drawn_items" sItems f fd)
    (GR : FnOk P w K mg base CX0 2 fr fdr ["generator", "bound"] spRandom) (bR : Binds K fdr ["generator", "bound"] []) (kR : PySem.W.keepIn K (.ref fr) = true) (mR : mg "_law_random" = some (.ref fr)) (mRange : mg "range" = none) : FnOk P w K mg base CX0 3 f fd ["generator", "most"] spItems := by
  refine F.ok scItems (fun vs H Q E h => ?_) (fun cdv A outer s H vs Q E hr h => ?_)
  · obtain ⟨g, m, n, rfl, _⟩ := h
    rfl
  obtain ⟨g, m, n, rfl, hm, gen, hn, q⟩ := h
  have nd := scItems.nd
  refine ⟨_, (pss_cons (ps_par (i := 2) (j := 3) rfl nd rfl rfl (by decide) rfl rfl (pa_cons (pe_ix ix_list (pe_lst (pa_cons pe_int (pa_cons pe_int (pa_cons pe_int (pa_cons (pe_op op_sub (pe_op op_pow pe_int pe_int) (pe_op op_mul pe_int (pv 1))) pa_nil))))) (pe_call GR (hr.mono (by decide)) rfl mR kR bR .nil pass0 (pa_cons (pv 0) (pa_cons pe_int pa_nil))) (fun _ _ => rfl)) (pa_cons (pe_lst pa_nil) pa_nil)) (by rfl))
    (pss_cons (ps_for PassesOwn.never rfl (pi_range1 (by rfl) mRange (pa_cons (pe_call GR (hr.mono (by decide)) rfl mR kR bR .nil pass0 (pa_cons (pv 0) (pa_cons (pe_op op_add (pv 1) pe_int) pa_nil))) pa_nil)) (pg_name (i := 4) nd rfl (.inl rfl))
      (pss_cons (ps_expr (pe_bm PySem.F.plainAttrs_list PySem.F.slot_list_append PySem.F.type_list_append mt_append (pv 3) (pa_cons (pv 2) pa_nil)))
      (pss_one (ps_set (i := 2) nd rfl (.inl rfl) (pe_op op_add (pe_op op_add (pv 2) pe_int) (pe_call GR (hr.mono (by decide)) rfl mR kR bR .nil pass0 (pa_cons (pv 0) (pa_cons pe_int pa_nil))))))))
    (pss_one (ps_ret (pv 3))))), ?_⟩
  refine ⟨_, _, rfl, rfl, ⟨by decide, by decide, by decide⟩, _, rfl, _, _, rfl, rfl, .inl ⟨by decide, by decide⟩, _, _, rfl, rfl, by show 4 ≤ sizeLine; decide, fun p0 n0 => ?_⟩
  have pw : (10 : Int) ^ (9 : Int).toNat = 1000000000 := by decide
  have m0 := same_new n0 (o := .lst [.int 0, .int 0, .int 3, .int ((10 : Int) ^ (9 : Int).toNat - 3 * (m : Int))])
  have e0 : upd H p0 (.lst [.int 0, .int 0, .int 3, .int ((10 : Int) ^ (9 : Int).toNat - 3 * (m : Int))]) p0 = some (.lst [.int 0, .int 0, .int 3, .int ((10 : Int) ^ (9 : Int).toNat - 3 * (m : Int))]) := upd_same
  generalize upd H p0 (.lst [.int 0, .int 0, .int 3, .int ((10 : Int) ^ (9 : Int).toNat - 3 * (m : Int))]) = H1 at m0 e0 ⊢
  refine ⟨_, rfl, g, 4, _, rfl, gen.same m0, by decide, by decide, by omega, fun r H2 r0 r1 gen2 b2 => ?_⟩
  have e2 := (b2 p0 (gen.ne n0)).trans e0
  obtain ⟨v0, ev, h0, h1⟩ : ∃ v0 : Int, atI [V.int 0, .int 0, .int 3, .int ((10 : Int) ^ (9 : Int).toNat - 3 * (m : Int))] r = some (.int v0) ∧ 0 ≤ v0 ∧ v0 ≤ 1000000000 - 3 * m := by
    have c4 : r = 0 ∨ r = 1 ∨ r = 2 ∨ r = 3 := by omega
    rcases c4 with rfl | rfl | rfl | rfl
    · exact ⟨_, rfl, by decide, by omega⟩
    · exact ⟨_, rfl, by decide, by omega⟩
    · exact ⟨_, rfl, by decide, by omega⟩
    · exact ⟨_, rfl, by omega, by omega⟩
  refine ⟨p0, _, r, _, rfl, rfl, SqL.of e2, ev, Nat.zero_le _, fun p1 n1 => ⟨_, _, rfl, ?_⟩⟩
  have k2 : Keep g H H2 := (Keep.of_same m0).trans (Keep.of_but b2)
  have n1H : H p1 = none := Keep.free k2 gen.at n1 gen2.at
  have n1g : p1 ≠ g := gen.ne n1H
  have m1 := same_new n1 (o := .lst [])
  have e1 : upd H2 p1 (.lst []) p1 = some (.lst []) := upd_same
  generalize upd H2 p1 (.lst []) = H3 at m1 e1 ⊢
  have k3 := k2.trans (Keep.of_same m1)
  -- the turns
  refine ⟨_, rfl, _, rfl, _, _, rfl, rfl, g, _, _, rfl, gen2.same m1, by omega, by omega, by omega, fun rt H4 t0 t1 gen4 b4 => ⟨rt, rfl, by omega, by omega, ?_⟩⟩
  refine for_range (lo := 0) (n := rt.toNat) (fun i σ H' => ∃ (v : Int) (ns : List Int) (y : Option V), σ = [some (.ref g), some (.int m), some (.int v), some (.ref p1), y] ∧ H' p1 = some (.lst (ns.map V.int)) ∧ ns.length = i ∧ Rising ns ∧ (∀ x ∈ ns, x < v) ∧ 0 ≤ v ∧ v ≤ 1000000000 - 3 * m + 3 * i ∧ Keep g H H' ∧ Gen H' g (n + 6 + 3 * i))
    ⟨v0, [], none, rfl, (b4 p1 n1g).trans e1, rfl, ⟨List.Pairwise.nil, (fun x h => by cases h)⟩, (fun x h => by cases h), h0, by omega, k3.trans (Keep.of_but b4), gen4.mono (by omega)⟩ (fun i σ H' hi hP => ?_) fun σ H' hP => ?_
  · obtain ⟨v, ns, y, rfl, ep, hl, rs, lt, v0, v1, kp, gn⟩ := hP
    refine ⟨_, rfl, .inl ⟨rfl, _, SqL.of ep⟩, _, rfl, p1, _, _, rfl, rfl, ep, by rw [List.length_map]; exact small1000 (by omega), ?_⟩
    refine ⟨_, rfl, _, _, rfl, rfl, _, rfl, g, 3, _, rfl, gn.upd n1g.symm, by decide, by decide, by omega, fun r3 H5 r30 r31 gn5 b5 => ⟨_, _, rfl, rfl, ?_⟩⟩
    refine ⟨v + 1 + r3, ns ++ [v], _, rfl, ?_, by rw [List.length_append, hl]; rfl, rising_put rs lt v0 (by omega), fun x hx => ?_, by omega, by omega, ?_, gn5.mono (by omega)⟩
    · rw [b5 p1 n1g, upd_same, List.map_append]
      rfl
    · rcases List.mem_append.mp hx with z | z
      · have := lt x z
        omega
      · rw [List.mem_singleton] at z
        omega
    · exact (kp.upd_new n1H).trans (Keep.of_but b5)
  · obtain ⟨v, ns, y, rfl, ep, hl, rs, lt, v0, v1, kp, gn⟩ := hP
    exact ⟨_, rfl, q p1 ns H' rs (by omega) kp n1H ep (gn.mono (by omega))⟩
end
end DQ

set_option Elab.async false
set_option linter.all false
set_option maxRecDepth 100000
set_option maxHeartbeats 4000000
namespace DQ
open PySem PySem.Spec PyProof.Rows L2
abbrev sStore : Stmt := topS 57
abbrev NS : List Str := ["generator", "most", "marks", "columns", "items", "facts", "mark", "often", "item", "column", "one", "other"]
theorem scStore : FnScope NS ["generator", "most"] (defScope sStore) := ⟨rfl, rfl, rfl, by decide +kernel, rfl, by decide +kernel, by decide +kernel⟩
section
variable {P : Program} {w : World} {K : PySem.W.Frag} {mg : Str → Option Value} {base : Heap}
def spStore : Sp := fun vs H Q _ => ∃ (g : Addr) (m : Nat) (n : Int), vs = [.ref g, .int m] ∧ m ≤ 100 ∧ Gen H g n ∧ n + 30000 ≤ 1073741824 ∧
  ∀ (v : V) (S : Store) (H' : Hp), Drawn m S → Keep g H H' → StoAt H' v S → StoAt (del H' g) v S → Gen H' g (n + 30000) → Q v H'
theorem ok_store {f fi fp fr : Addr} {fd fdi fdp fdr : FuncData} (F : Fun K "_law_drawn_store" "_law_drawn_store" sStore f fd)
    (GI : FnOk P w K mg base CX0 3 fi fdi ["generator", "most"] spItems) (bI : Binds K fdi ["generator", "most"] []) (kI : PySem.W.keepIn K (.ref fi) = true) (mI : mg "_law_drawn_items" = some (.ref fi))
    (GP : FnOk P w K mg base CX0 4 fp fdp ["generator", "items"] (spPairs K)) (bP : Binds K fdp ["generator", "items"] []) (kP : PySem.W.keepIn K (.ref fp) = true) (mP : mg "_law_drawn_pairs" = some (.ref fp))
    (GR : FnOk P w K mg base CX0 2 fr fdr ["generator", "bound"] spRandom) (bR : Binds K fdr ["generator", "bound"] []) (kR : PySem.W.keepIn K (.ref fr) = true) (mR : mg "_law_random" = some (.ref fr)) (mSorted : mg "sorted" = none) : FnOk P w K mg base CX0 5 f fd ["generator", "most"] spStore := by
  refine F.ok scStore (fun vs H Q E h => ?_) (fun cdv A outer s H vs Q E hr h => ?_)
  · obtain ⟨g, m, n, rfl, _⟩ := h
    rfl
  obtain ⟨g, m, n, rfl, hm, gen, hn, q⟩ := h
  have nd := scStore.nd
  refine ⟨_, (pss_cons (ps_par (i := 2) (j := 3) rfl nd rfl rfl (by decide) rfl rfl (pa_cons (pe_slice sl_list (pe_lst (pa_cons pe_str (pa_cons pe_str (pa_cons pe_str pa_nil)))) po_none (po_some (pe_call GR (hr.mono (by decide)) rfl mR kR bR .nil pass0 (pa_cons (pv 0) (pa_cons pe_int pa_nil))))) (pa_cons (pe_slice sl_list (pe_lst (pa_cons pe_str (pa_cons pe_str pa_nil))) po_none (po_some (pe_op op_add pe_int (pe_call GR (hr.mono (by decide)) rfl mR kR bR .nil pass0 (pa_cons (pv 0) (pa_cons pe_int pa_nil)))))) pa_nil)) (by rfl))
    (pss_cons (ps_par (i := 4) (j := 5) rfl nd rfl rfl (by decide) rfl rfl (pa_cons (pe_call GI (hr.mono (by decide)) rfl mI kI bI .nil pass0 (pa_cons (pv 0) (pa_cons (pv 1) pa_nil))) (pa_cons (pe_lst pa_nil) pa_nil)) (by rfl))
    (pss_cons (ps_for PassesOwn.never rfl (pi_list (pv 2)) (pg_name (i := 6) nd rfl (.inr rfl)) (pss_cons (ps_set (i := 7) nd rfl (.inr rfl) (pe_op op_add pe_int (pe_call GR (hr.mono (by decide)) rfl mR kR bR .nil pass0 (pa_cons (pv 0) (pa_cons pe_int pa_nil))))) (pss_one (ps_set (i := 5) nd rfl (.inl rfl) (pe_op op_cat (pv 5) (pe_lc (own := [("item", 8)]) (g := gName 8) rfl nd (pi_list (pv 4)) (blkOk_by (own := [("item", 8)]) (N := NS) (sc := defScope sStore) (by decide +kernel)) (fun _ _ _ _ _ => pg_name (i := 8) nd rfl (Or.inl rfl)) (fun _ _ _ _ _ => pts_one (pt_cmpR op_eq (pe_call GR (hr.mono (by decide)) rfl mR kR bR .nil pass0 (pa_cons (pv 0) (pa_cons (pv 7) pa_nil))) pe_int (nomark _))) (fun _ _ _ _ _ => (pe_tup (pa_cons pe_str (pa_cons (pv 6) (pa_cons (pv 8) pa_nil)))))))))))
    (pss_cons (ps_for PassesOwn.never rfl (pi_list (pv 3)) (pg_name (i := 9) nd rfl (.inr rfl)) (pss_one (ps_set (i := 5) nd rfl (.inl rfl) (pe_op op_cat (pv 5) (pe_lc (own := [("one", 10), ("other", 11)]) (g := gTup K 2 (gCons (gName 10) (gCons (gName 11) gNil))) (tt := tYes) rfl nd (pi_list (pe_call GP (hr.mono (by decide)) rfl mP kP bP .nil pass0 (pa_cons (pv 0) (pa_cons (pv 4) pa_nil)))) (blkOk_by (own := [("one", 10), ("other", 11)]) (N := NS) (sc := defScope sStore) (by decide +kernel)) (fun _ _ _ _ _ => pg_tup rfl (pgs_cons (pg_name (i := 10) nd rfl (Or.inl rfl) (.inr rfl)) (pgs_cons (pg_name (i := 11) nd rfl (Or.inl rfl) (.inr rfl)) pgs_nil))) (fun _ _ _ _ _ => pts_nil) (fun _ _ _ _ _ => (pe_tup (pa_cons pe_str (pa_cons (pv 9) (pa_cons (pv 10) (pa_cons (pv 11) pa_nil)))))))))))
    (pss_one (ps_ret (pe_tup (pa_cons pe_str (pa_cons (pv 2) (pa_cons (pv 3) (pa_cons (pv 4) (pa_cons (pe_callB (cr_sortD (enc := Fact.d) hr.units) (by rfl) mSorted (by decide +kernel) (pa_cons (pv 5) pa_nil)) pa_nil)))))))))))), ?_⟩
  refine ⟨by show 3 ≤ sizeLine; decide, fun q1 nq1 => ?_⟩
  have mq1 := same_new nq1 (o := .lst [.str "red", .str "blue", .str "gold"])
  have eq1 : upd H q1 (.lst [.str "red", .str "blue", .str "gold"]) q1 = some (.lst [.str "red", .str "blue", .str "gold"]) := upd_same
  generalize upd H q1 (.lst [.str "red", .str "blue", .str "gold"]) = H1 at mq1 eq1 ⊢
  refine ⟨_, rfl, g, 4, _, rfl, gen.same mq1, by decide, by decide, by omega, fun r1 H2 r10 r11 gen2 b2 => ?_⟩
  refine ⟨_, rfl, q1, _, rfl, SqL.of ((b2 q1 (gen.ne nq1)).trans eq1), fun pm nm => ?_⟩
  rw [cut_take r10, show ([V.str "red", .str "blue", .str "gold"].take r1.toNat) = ((["red", "blue", "gold"] : List Str).take r1.toNat).map V.str by rw [List.map_take]; rfl]
  have hMS : ∃ k, k ≤ 3 ∧ (["red", "blue", "gold"] : List Str).take r1.toNat = (["red", "blue", "gold"] : List Str).take k := ⟨r1.toNat, by omega, rfl⟩
  generalize hms : (["red", "blue", "gold"] : List Str).take r1.toNat = MS at hMS ⊢
  have mm := same_new nm (o := .lst (MS.map V.str))
  have em : upd H2 pm (.lst (MS.map V.str)) pm = some (.lst (MS.map V.str)) := upd_same
  generalize upd H2 pm (.lst (MS.map V.str)) = H3 at mm em ⊢
  -- columns
  refine ⟨by show 2 ≤ sizeLine; decide, fun q2 nq2 => ?_⟩
  have mq2 := same_new nq2 (o := .lst [.str "next", .str "below"])
  have eq2 : upd H3 q2 (.lst [.str "next", .str "below"]) q2 = some (.lst [.str "next", .str "below"]) := upd_same
  generalize upd H3 q2 (.lst [.str "next", .str "below"]) = H4 at mq2 eq2 ⊢
  have k3 : Keep g H H3 := ((Keep.of_same mq1).trans (Keep.of_but b2)).trans (Keep.of_same mm)
  have gen3 := gen2.same mm
  refine ⟨_, rfl, g, 2, _, rfl, gen3.same mq2, by decide, by decide, by omega, fun r2 H5 r20 r21 gen5 b5 => ⟨_, _, rfl, rfl, _, rfl, q2, _, rfl, SqL.of ((b5 q2 (gen3.ne nq2)).trans eq2), fun pc nc => ?_⟩⟩
  rw [cut_take (show 0 ≤ 1 + r2 by omega), show ([V.str "next", .str "below"].take (1 + r2).toNat) = ((["next", "below"] : List Str).take (1 + r2).toNat).map V.str by rw [List.map_take]; rfl]
  have hCS : ∃ k, 1 ≤ k ∧ k ≤ 2 ∧ (["next", "below"] : List Str).take (1 + r2).toNat = (["next", "below"] : List Str).take k := ⟨(1 + r2).toNat, by omega, by omega, rfl⟩
  generalize hcs : (["next", "below"] : List Str).take (1 + r2).toNat = CS at hCS ⊢
  have mc := same_new nc (o := .lst (CS.map V.str))
  have ec : upd H5 pc (.lst (CS.map V.str)) pc = some (.lst (CS.map V.str)) := upd_same
  generalize upd H5 pc (.lst (CS.map V.str)) = H6 at mc ec ⊢
  have k6 : Keep g H H6 := ((k3.trans (Keep.of_same mq2)).trans (Keep.of_but b5)).trans (Keep.of_same mc)
  have gen6 := gen5.same mc
  have nmg : pm ≠ g := gen2.ne nm
  have ncg : pc ≠ g := gen5.ne nc
  have em6 : H6 pm = some (.lst (MS.map V.str)) := mc _ _ ((b5 pm nmg).trans (mq2 _ _ em))
  -- items, facts
  refine ⟨_, _, rfl, _, rfl, _, rfl, g, m, _, rfl, hm, gen6, by omega, fun pi ns H7 rise few k7 ni ei gen7 => ⟨Nat.zero_le _, fun pf nf => ⟨_, _, rfl, ?_⟩⟩⟩
  have mf := same_new nf (o := .lst [])
  have ef : upd H7 pf (.lst []) pf = some (.lst []) := upd_same
  generalize upd H7 pf (.lst []) = H8 at mf ef ⊢
  have k8 : Keep g H H8 := (k6.trans k7).trans (Keep.of_same mf)
  have gen8 : Gen H8 g (n + 400) := (gen7.same mf).mono (by omega)
  have nig : pi ≠ g := gen6.ne ni
  have em8 : H8 pm = some (.lst (MS.map V.str)) := mf _ _ (k7 _ _ nmg em6)
  have ec8 : H8 pc = some (.lst (CS.map V.str)) := mf _ _ (k7 _ _ ncg ec)
  have ei8 : H8 pi = some (.lst (ns.map V.int)) := mf _ _ ei
  have nodn := rise.nodup
  have nodM : MS.Nodup := by rw [← hms]; exact (List.take_sublist _ _).nodup (by decide)
  have nodC : CS.Nodup := by rw [← hcs]; exact (List.take_sublist _ _).nodup (by decide)
  have lenM : MS.length ≤ 3 := by rw [← hms, List.length_take]; exact Nat.min_le_right _ _
  have lenC : CS.length ≤ 2 := by rw [← hcs, List.length_take]; exact Nat.min_le_right _ _
  -- the marks
  refine ⟨_, rfl, pm, rfl, ⟨_, SqL.of em8⟩, for_list (K := K) (a := pm) (xs := MS.map V.str) (fun i σ H' => ∃ (pf : Addr) (fs : List Fact) (rs : List V) (y6 y7 : Option V), σ = [some (.ref g), some (.int m), some (.ref pm), some (.ref pc), some (.ref pi), some (.ref pf), y6, y7, none, none, none, none] ∧ pf ≠ g ∧ H' pf = some (.lst rs) ∧ rs.length ≤ 100 * i ∧ Tups H' rs (fs.map Fact.v) ∧ fs.Nodup ∧ (∀ x ∈ fs, ∃ mk it, x = .mark mk it ∧ mk ∈ MS.take i ∧ it ∈ ns) ∧ Keep g H8 H' ∧ Gen H' g (n + 400 + 400 * i))
    ⟨pf, [], [], none, none, rfl, gen7.ne nf, ef, Nat.le_refl _, .nil, List.nodup_nil, (fun x h => by cases h), Keep.refl g H8, gen8.mono (by omega)⟩ (fun i σ H' _ hP => ?_) (fun i x σ H' hx hP => ?_) fun σ H' hP => ?_⟩
  · obtain ⟨pf, fs, rs, y6, y7, rfl, npf, ef, hl, tp, nf, al, kp, gn⟩ := hP
    exact SqL.of (kp _ _ nmg em8)
  · obtain ⟨pf, fs, rs, y6, y7, rfl, npf, ef, hl, tp, nodf, al, kp, gn⟩ := hP
    obtain ⟨mk, hmk, rfl⟩ := at_map hx
    have hi : i < MS.length := (List.getElem?_eq_some_iff.mp hmk).1
    refine ⟨_, rfl, g, 3, _, rfl, gn, by decide, by decide, by omega, fun r H9 r0 r1' gn9 b9 => ⟨_, _, rfl, rfl, ?_⟩⟩
    have k9 : Keep g H8 H9 := kp.trans (Keep.of_but b9)
    refine ⟨_, rfl, _, rfl, pi, rfl, ⟨_, SqL.of (k9 _ _ nig ei8)⟩, fun D nD => lc_list (K := K) (a := pi) (xs := ns.map V.int) (fun k H' => ∃ (fs' : List Fact) (rs' : List V), H' D = some (.lst rs') ∧ rs'.length ≤ k ∧ Tups H' rs' (fs'.map Fact.v) ∧ fs'.Sublist ((ns.map (Fact.mark mk)).take k) ∧ Keep g H9 H' ∧ Gen H' g (n + 400 + 400 * i + 3 + 3 * k))
      ⟨[], [], upd_same, Nat.le_refl _, .nil, List.nil_sublist _, Keep.of_same (same_new nD), (gn9.same (same_new nD)).mono (by omega)⟩ (fun k H' _ hP => ?_) (fun k x H' hx hP => ?_) fun H' hP => ?_⟩
    · obtain ⟨fs', rs', eD, hl', tp', sb, kp', gn'⟩ := hP
      exact SqL.of (kp' _ _ nig (k9 _ _ nig ei8))
    · obtain ⟨fs', rs', eD, hl', tp', sb, kp', gn'⟩ := hP
      obtain ⟨it, hit, rfl⟩ := at_map hx
      have nDg : D ≠ g := gn9.ne nD
      have gz : (ns.map (Fact.mark mk))[k]? = some (.mark mk it) := by rw [List.getElem?_map, hit]; rfl
      have hk : k < ns.length := (List.getElem?_eq_some_iff.mp hit).1
      refine ⟨rfl, _, rfl, _, rfl, g, _, _, rfl, gn', by omega, by omega, by omega, fun q H10 q0 q1 gn10 b10 => ⟨rfl, _, rfl, ite2 (fun c2 => ?_) fun c2 => ?_⟩⟩
      · have eD10 : H10 D = some (.lst rs') := (b10 D nDg).trans eD
        refine ⟨_, rfl, _, rfl, by show 3 ≤ sizeLine; decide, fun T nT => ?_⟩
        have mT := same_new nT (o := .tup [.str "mark", .str mk, .int it])
        have eT : upd H10 T (.tup [.str "mark", .str mk, .int it]) T = some (.tup [.str "mark", .str mk, .int it]) := upd_same
        generalize upd H10 T (.tup [.str "mark", .str mk, .int it]) = H11 at mT eT ⊢
        have eD11 := mT _ _ eD10
        refine ⟨rs', eD11, small1000 (by omega), fs' ++ [.mark mk it], rs' ++ [.ref T], upd_same, ?_, ?_, sub_put sb gz, ?_, ?_⟩
        · rw [List.length_append, List.length_singleton]
          omega
        · rw [List.map_append]
          exact (Tups.put eT ((tp'.keep (tk_keep (Keep.of_but b10) gn')).keep (tk_same mT))).keep (tk_lst eD11)
        · exact ((kp'.trans (Keep.of_but b10)).trans (Keep.of_same mT)).upd_new nD
        · exact ((gn10.same mT).upd nDg.symm).mono (by omega)
      · exact ⟨fs', rs', (b10 D nDg).trans eD, by omega, tp'.keep (tk_keep (Keep.of_but b10) gn'), sub_skip sb gz, kp'.trans (Keep.of_but b10), gn10.mono (by omega)⟩
    · obtain ⟨fs', rs', eD, hl', tp', sb, kp', gn'⟩ := hP
      rw [List.length_map] at hl' sb gn'
      have npD : pf ≠ D := ne_of_none ((b9 pf npf).trans ef) nD
      have ef9 := kp' _ _ npf ((b9 pf npf).trans ef)
      refine ⟨pf, D, _, _, rfl, rfl, ef9, eD, Nat.le_trans (show rs.length + rs'.length ≤ 1000 by omega) (by decide), fun p7 n7 => ?_⟩
      have m7 := same_new n7 (o := .lst (rs ++ rs'))
      have sub' : fs'.Sublist (ns.map (Fact.mark mk)) := sb.trans (List.take_sublist _ _)
      have tke := take_next hmk
      refine ⟨p7, fs ++ fs', rs ++ rs', _, _, rfl, gn'.ne n7, upd_same, ?_, ?_, ?_, fun x hx => ?_, (k9.trans kp').trans (Keep.of_same m7), (gn'.same m7).mono (by omega)⟩
      · rw [List.length_append]
        omega
      · rw [List.map_append]
        exact (Tups.append ((tp.keep (tk_keep (Keep.of_but b9) gn)).keep (tk_keep kp' gn9)) tp').keep (tk_same m7)
      · refine List.nodup_append.mpr ⟨nodf, sub'.nodup (List.pairwise_map.mpr (nodn.imp fun h e => h (by cases e; rfl))), fun x hx y hy e => ?_⟩
        obtain ⟨mk', it', rfl, hm', _⟩ := al x hx
        obtain ⟨it2, _, e2⟩ := List.mem_map.mp (sub'.subset hy)
        rw [← e2] at e
        cases e
        have z : (MS.take i ++ [mk]).Nodup := by
          rw [← tke]
          exact (List.take_sublist _ _).nodup nodM
        exact (List.nodup_append.mp z).2.2 mk hm' mk (List.mem_singleton.mpr rfl) rfl
      · rcases List.mem_append.mp hx with z | z
        · obtain ⟨mk', it', e, hm', hi'⟩ := al x z
          exact ⟨mk', it', e, by rw [tke]; exact List.mem_append_left _ hm', hi'⟩
        · obtain ⟨it2, h2, e2⟩ := List.mem_map.mp (sub'.subset z)
          exact ⟨mk, it2, e2.symm, by rw [tke]; exact List.mem_append_right _ (List.mem_singleton.mpr rfl), h2⟩
  obtain ⟨pf', fs0, rs0, y6, y7, rfl, npf0, ef0, hl0, tp0, nod0, al0, kp0, gn0⟩ := hP
  rw [List.length_map] at hl0 gn0 al0
  refine ⟨_, rfl, pc, rfl, ⟨_, SqL.of (kp0 _ _ ncg ec8)⟩, for_list (K := K) (a := pc) (xs := CS.map V.str) (fun i σ H' => ∃ (pf : Addr) (fs : List Fact) (rs : List V) (y9 : Option V), σ = [some (.ref g), some (.int m), some (.ref pm), some (.ref pc), some (.ref pi), some (.ref pf), y6, y7, none, y9, none, none] ∧ pf ≠ g ∧ H' pf = some (.lst rs) ∧ rs.length ≤ 400 + 100 * i ∧ Tups H' rs (fs.map Fact.v) ∧ fs.Nodup ∧ (∀ x ∈ fs, Fact.of ⟨MS, CS.take i, ns, []⟩ x) ∧ (∀ c, OneToOne ns (linksOf c fs)) ∧ Keep g H8 H' ∧ Gen H' g (n + 2000 + 2200 * i))
    ⟨pf', fs0, rs0, none, rfl, npf0, ef0, by omega, tp0, nod0, (fun x h => by
      obtain ⟨mk, it, rfl, h1, h2⟩ := al0 x h
      exact ⟨List.mem_of_mem_take h1, h2⟩), (fun c => by
      rw [links_marks fun x h => let ⟨mk, it, e, _⟩ := al0 x h; ⟨mk, it, e⟩]
      exact oneToOne_nil ns), kp0, gn0.mono (by omega)⟩ (fun i σ H' _ hP => ?_) (fun i x σ H' hx hP => ?_) fun σ H' hP => ?_⟩
  · obtain ⟨pf, fs, rs, y9, rfl, npf, ef, hl, tp, nf, al, oo, kp, gn⟩ := hP
    exact SqL.of (kp _ _ ncg ec8)
  · obtain ⟨pf, fs, rs, y9, rfl, npf, ef, hl, tp, nodf, al, oo, kp, gn⟩ := hP
    obtain ⟨cc, hcc, rfl⟩ := at_map hx
    have hi : i < CS.length := (List.getElem?_eq_some_iff.mp hcc).1
    refine ⟨_, rfl, _, rfl, _, rfl, g, pi, ns, _, rfl, SqL.of (kp _ _ nig ei8), nig, nodn, gn, by omega, by omega, fun pp rsP ps H9 o9 k9 nP eP tpP gn9 => ?_⟩
    have npp : pp ≠ g := gn.ne nP
    have lenP : rsP.length = ps.length := by rw [tpP.length, List.length_map]
    have lenPs := o9.len
    have nodps := o9.nodup
    refine ⟨_, rfl, ⟨_, SqL.of eP⟩, fun D nD => lc_list (K := K) (a := pp) (xs := rsP) (fun k H' => ∃ (rs' : List V), H' D = some (.lst rs') ∧ rs'.length ≤ k ∧ Tups H' rs' (((ps.take k).map fun p => Fact.link cc p.1 p.2).map Fact.v) ∧ Keep g H9 H' ∧ Gen H' g (n + 2000 + 2200 * i + 20 * ns.length + 100))
      ⟨[], upd_same, Nat.le_refl _, .nil, Keep.of_same (same_new nD), gn9.same (same_new nD)⟩ (fun k H' _ hP => ?_) (fun k x H' hx hP => ?_) fun H' hP => ?_⟩
    · obtain ⟨rs', eD, hl', tp', kp', gn'⟩ := hP
      exact SqL.of (kp' _ _ npp eP)
    · obtain ⟨rs', eD, hl', tp', kp', gn'⟩ := hP
      obtain ⟨a, t, rfl, ha, ht⟩ := tpP.get hx
      obtain ⟨p, hp, rfl⟩ := at_map ht
      have nDg : D ≠ g := gn9.ne nD
      have hk : k < ps.length := (List.getElem?_eq_some_iff.mp hp).1
      have ha' : H' a = some (.tup (pairV p)) := tk_keep kp' gn9 _ _ ha
      refine ⟨a, pairV p, rfl, .inl (.inl ha'), rfl, ?_⟩
      refine ⟨.int p.1, [.int p.2], rfl, .int p.2, [], rfl, rfl, rfl, _, rfl, _, rfl, _, rfl, by show 4 ≤ sizeLine; decide, fun T nT => ?_⟩
      have mT := same_new nT (o := .tup [.str "link", .str cc, .int p.1, .int p.2])
      have eT : upd H' T (.tup [.str "link", .str cc, .int p.1, .int p.2]) T = some (.tup [.str "link", .str cc, .int p.1, .int p.2]) := upd_same
      generalize upd H' T (.tup [.str "link", .str cc, .int p.1, .int p.2]) = H11 at mT eT ⊢
      have eD11 := mT _ _ eD
      refine ⟨rs', eD11, small1000 (by omega), rs' ++ [.ref T], upd_same, ?_, ?_, ?_, ?_⟩
      · rw [List.length_append, List.length_singleton]
        omega
      · rw [take_next hp, List.map_append, List.map_append]
        exact (Tups.put eT (tp'.keep (tk_same mT))).keep (tk_lst eD11)
      · exact (kp'.trans (Keep.of_same mT)).upd_new nD
      · exact (gn'.same mT).upd nDg.symm
    · obtain ⟨rs', eD, hl', tp', kp', gn'⟩ := hP
      rw [lenP] at hl' tp'
      rw [List.take_length] at tp'
      have npD : pf ≠ D := ne_of_none (k9 _ _ npf ef) nD
      have ef9 := kp' _ _ npf (k9 _ _ npf ef)
      refine ⟨pf, D, _, _, rfl, rfl, ef9, eD, Nat.le_trans (show rs.length + rs'.length ≤ 1000 by omega) (by decide), fun p7 n7 => ?_⟩
      have m7 := same_new n7 (o := .lst (rs ++ rs'))
      have tke := take_next hcc
      have ncc : cc ∉ CS.take i := fun h => by
        have z : (CS.take i ++ [cc]).Nodup := by
          rw [← tke]
          exact (List.take_sublist _ _).nodup nodC
        exact (List.nodup_append.mp z).2.2 cc h cc (List.mem_singleton.mpr rfl) rfl
      have out : linksOf cc fs = [] := links_out al ncc
      refine ⟨p7, fs ++ ps.map (fun p => Fact.link cc p.1 p.2), rs ++ rs', _, rfl, gn'.ne n7, upd_same, ?_, ?_, ?_, fun x hx => ?_, fun c => ?_, ((kp.trans k9).trans kp').trans (Keep.of_same m7), (gn'.same m7).mono (by omega)⟩
      · rw [List.length_append]
        omega
      · rw [List.map_append]
        exact (Tups.append ((tp.keep (tk_keep k9 gn)).keep (tk_keep kp' gn9)) tp').keep (tk_same m7)
      · refine List.nodup_append.mpr ⟨nodf, List.pairwise_map.mpr (nodps.imp fun {x y} h e => h (by injection e with _ e1 e2; exact Prod.ext e1 e2)), fun x hx y hy e => ?_⟩
        obtain ⟨p2, _, e2⟩ := List.mem_map.mp hy
        rw [← e] at e2
        have z := al x hx
        rw [← e2] at z
        exact ncc z.1
      · rcases List.mem_append.mp hx with z | z
        · have w0 := al x z
          cases x with
          | mark a b => exact w0
          | link a b c => exact ⟨by rw [tke]; exact List.mem_append_left _ w0.1, w0.2⟩
        · obtain ⟨p2, h2, e2⟩ := List.mem_map.mp z
          rw [← e2]
          exact ⟨by rw [tke]; exact List.mem_append_right _ (List.mem_singleton.mpr rfl), o9.2.2 p2 h2⟩
      · rw [links_append]
        by_cases ec : cc = c
        · rw [← ec, out, List.nil_append, links_self]
          exact o9
        · rw [links_other ec, List.append_nil]
          exact oo c
  · obtain ⟨pf, fs, rs, y9, rfl, npf, ef, hl, tp, nodf, al, oo, kp, gn⟩ := hP
    rw [List.length_map] at hl al gn
    rw [List.take_length] at al
    have lenR : rs.length = fs.length := by rw [tp.length, List.length_map]
    have z1 : (rs.zip fs).map (·.1) = rs := List.map_fst_zip (Nat.le_of_eq lenR)
    have z2 : (rs.zip fs).map (·.2) = fs := List.map_snd_zip (Nat.le_of_eq lenR.symm)
    refine ⟨_, rfl, _, rfl, _, rfl, _, rfl, pf, rs.zip fs, rfl, ?_, fun z hz => ?_, ?_, Or.inl fun d hd => ?_, fun z hz => fact_depth _, fun p hp => ?_⟩
    · rw [z1]
      exact SqL.of ef
    · obtain ⟨a, e, h⟩ := tp.zip z hz
      rw [e]
      exact fact_dp h
    · intro d hd d' hd'
      obtain ⟨x, _, rfl⟩ := List.mem_map.mp hd
      obtain ⟨y, _, rfl⟩ := List.mem_map.mp hd'
      exact fact_alike _ _
    · obtain ⟨x, _, rfl⟩ := List.mem_map.mp hd
      exact fact_tuple _
    · refine ⟨by show 5 ≤ sizeLine; decide, fun T nT => ?_⟩
      have pmZ := List.mergeSort_perm (rs.zip fs) (PySem.W.dataLe false fun z => z.2.d)
      have ri := sorted_rise (zs := rs.zip fs) (by rw [z2]; exact nodf)
      have tz : ∀ z ∈ (rs.zip fs).mergeSort (PySem.W.dataLe false fun z => z.2.d), ∃ a, z.1 = .ref a ∧ H' a = some (.tup z.2.v) := fun z hz => tp.zip z (pmZ.subset hz)
      generalize hzs : (rs.zip fs).mergeSort (PySem.W.dataLe false fun z => z.2.d) = zs at pmZ ri tz nT ⊢
      have pf2 : (zs.map (·.2)).Perm fs := by
        have := pmZ.map (·.2)
        rwa [z2] at this
      have mp := same_new hp (o := .lst (zs.map (·.1)))
      have ep : upd H' p (.lst (zs.map (·.1))) p = some (.lst (zs.map (·.1))) := upd_same
      generalize upd H' p (.lst (zs.map (·.1))) = H11 at mp ep nT ⊢
      have mT := same_new nT (o := .tup [.str "store", .ref pm, .ref pc, .ref pi, .ref p])
      have eT : upd H11 T (.tup [.str "store", .ref pm, .ref pc, .ref pi, .ref p]) T = some (.tup [.str "store", .ref pm, .ref pc, .ref pi, .ref p]) := upd_same
      generalize upd H11 T (.tup [.str "store", .ref pm, .ref pc, .ref pi, .ref p]) = H12 at mT eT ⊢
      have kH := kp
      refine q (.ref T) ⟨MS, CS, ns, zs.map (·.2)⟩ _ ⟨hMS, hCS, rise, few, by rw [pf2.length_eq, ← lenR]; omega, ri, fun x hx => ?_, fun c => (oo c).perm (links_perm pf2)⟩ (((k8.trans kp).trans (Keep.of_same mp)).trans (Keep.of_same mT)) ⟨T, pm, pc, pi, p, zs.map (·.1), rfl, eT, mT _ _ (mp _ _ (kp _ _ nmg em8)), mT _ _ (mp _ _ (kp _ _ ncg ec8)), mT _ _ (mp _ _ (kp _ _ nig ei8)), mT _ _ ep, ((tups_of zs tz).keep (tk_same mp)).keep (tk_same mT)⟩ ⟨T, pm, pc, pi, p, zs.map (·.1), rfl, (del_ne (((gn.same mp).ne nT))).trans eT, (del_ne nmg).trans (mT _ _ (mp _ _ (kp _ _ nmg em8))), (del_ne ncg).trans (mT _ _ (mp _ _ (kp _ _ ncg ec8))), (del_ne nig).trans (mT _ _ (mp _ _ (kp _ _ nig ei8))), (del_ne (gn.ne hp)).trans (mT _ _ ep), (((tups_of zs tz).keep (tk_same mp)).keep (tk_same mT)).keep (tk_del ((gn.same mp).same mT))⟩ (((gn.same mp).same mT).mono (by omega))
      have w0 := al x (pf2.subset hx)
      cases x with
      | mark a b => exact w0
      | link a b c => exact w0
end
end DQ

set_option Elab.async false
set_option linter.all false
set_option maxRecDepth 100000
set_option maxHeartbeats 8000000
namespace DQ
open PySem PySem.Spec PyProof.Rows L2
abbrev sLaw : Stmt := topS 63
abbrev NLw : List Str := ["script", "generator", "store", "free", "bad", "which", "odd", "fact", "held", "full", "thing", "told"]
theorem scLaw : FnScope NLw ["script"] (defScope sLaw) := ⟨rfl, rfl, rfl, by decide +kernel, rfl, by decide +kernel, by decide +kernel⟩
def spLaw (K : PySem.W.Frag) : Sp := fun vs H Q _ => ∃ (a : Addr) (ns : List Int), vs = [.ref a] ∧ SqL K H a (ns.map V.int) ∧ ∀ H', Q (.bl true) H'
/-- what the slots hold where a literal is written -/
def LawPre (σ : L2.St) (H : Hp) : Prop := (∃ k, σ[3]? = some (some (.int k))) ∧ ∃ (v : V) (S : Store) (m : Nat), σ[2]? = some (some v) ∧ StoAt H v S ∧ Drawn m S
/-- a number that no item has: the first one -/
theorem free_few {ns : List Int} {free : Int} (nd : ns.Nodup) (h : ∀ j, 0 ≤ j → j < free → j ∈ ns) : free ≤ ns.length := by
  by_cases c : free ≤ 0
  · omega
  have l := (show ((List.range free.toNat).map fun i : Nat => (i : Int)).Nodup from List.pairwise_map.mpr (List.nodup_range.imp fun h e => h (by omega))).length_le_of_subset (l₂ := ns) fun x hx => by
    obtain ⟨i, hi, rfl⟩ := List.mem_map.mp hx
    have := List.mem_range.mp hi
    exact h _ (by omega) (by omega)
  rw [List.length_map, List.length_range] at l
  omega
section
variable {P : Program} {w : World} {K : PySem.W.Frag} {mg : Str → Option Value} {base : Heap}
theorem ok_law {f fG fS fC fO fL fN dM C0 CF CI CL CT fp ft fa' fdr : Addr} {fd dG dS dC dO dL dN : FuncData} (F : Fun K "law" "law" sLaw f fd) (M : Makers K w dM fp ft fa' fdr) (lay : PySem.W.nsIn K dM "lay" = some none)
    (GG : FnOk P w K mg base CX0 2 fG dG ["script", "index"] (spGenerator K)) (bG : Binds K dG ["script", "index"] []) (kG : PySem.W.keepIn K (.ref fG) = true) (mG : mg "_law_generator" = some (.ref fG))
    (GS : FnOk P w K mg base CX0 5 fS dS ["generator", "most"] spStore) (bS : Binds K dS ["generator", "most"] []) (kS : PySem.W.keepIn K (.ref fS) = true) (mS : mg "_law_drawn_store" = some (.ref fS))
    (GC : FnG P w K mg base CX0 10 fC dC ["which", "one", "other"] (spCaughtOf K (askG K dM C0 CF CI CL CT) C0 CF CI CL CT)) (bC : Binds K dC ["which", "one", "other"] []) (kC : PySem.W.keepIn K (.ref fC) = true) (mC : mg "_law_caught" = some (.ref fC))
    (GO : FnG P w K mg base CX0 1 fO dO ["told", "place", "bad"] (spOnly K)) (bO : Binds K dO ["told", "place", "bad"] []) (kO : PySem.W.keepIn K (.ref fO) = true) (mO : mg "_law_only" = some (.ref fO))
    (GL : FnG P w K mg base CX0 11 fL dL ["store", "free"] spLists) (bL : Binds K dL ["store", "free"] []) (kL : PySem.W.keepIn K (.ref fL) = true) (mL : mg "_law_lists_refused" = some (.ref fL))
    (GN : FnG P w K mg base CX0 11 fN dN [] spNear) (bN : Binds K dN [] []) (kN : PySem.W.keepIn K (.ref fN) = true) (mN : mg "_law_near_facts_refused" = some (.ref fN))
    (mList : mg "list" = none) (mRange : mg "range" = none) (nd5 : [C0, CF, CI, CL, CT].Nodup) : FnG P w K mg base CX0 12 f fd ["script"] (spLaw K) := by
  refine fun_okG F scLaw (fun vs H Q E h => ?_) (fun cdv A outer s H vs Q E hr hG h => ?_)
  · obtain ⟨_, _, rfl, _⟩ := h
    rfl
  obtain ⟨a, ns, rfl, L, q⟩ := h
  have nd := scLaw.nd
  have V0 : View (fun _ H => H) (fun _ _ => True) := view_all fun _ _ _ _ h => h
  have Vw : View (fun _ H => H) LawPre := view_all fun σ H H' s h => ⟨h.1, by
    obtain ⟨v, S, m, e, A, D⟩ := h.2
    exact ⟨v, S, m, e, stoAt_same s A, D⟩⟩
  have ho : ∀ (σ : L2.St) (H : Hp), LawPre σ H → ∃ k, σ[3]? = some (some (.int k)) := fun σ H h => h.1
  have hC : ∀ (σ : L2.St) (H : Hp) (Q : VK), LawPre σ H → Q (.str "next") H → tOp (rIxL K) (tOp (rIxT K) (tVar 2) (tC (.int 2))) (tC (.int 0)) σ H Q := fun σ H Q h q => by
    obtain ⟨v, S, m, e, A, D⟩ := h.2
    exact ⟨v, e, col_read D H A Q q⟩
  refine ⟨_, (pss_cons (ps_set (i := 1) nd rfl (.inl rfl) (pe_call GG (hr.mono (by decide)) rfl mG kG bG .nil pass0 (pa_cons (pv 0) (pa_cons pe_int pa_nil))))
    (pss_cons (ps_set (i := 2) nd rfl (.inl rfl) (pe_call GS (hr.mono (by decide)) rfl mS kS bS .nil pass0 (pa_cons (pv 1) (pa_cons pe_int pa_nil))))
    (pss_cons (ps_set (i := 3) nd rfl (.inl rfl) (pe_op op_sub (pe_ix (r := rIxL K) ix_list (pe_op op_cat (pe_ix (r := rIxT K) ix_tup (pv 2) pe_int (fun _ _ => rfl)) (pe_lst (pa_cons pe_int pa_nil))) (pe_un un_neg pe_int) (fun _ _ => rfl)) pe_int))
    (pss_cons (ps_while (passes_of rfl) (PW.pt (pw_or (pt_cmpR (r := rIn K false) op_in_seq (pv 3) (pe_ix (r := rIxT K) ix_tup (pv 2) pe_int (fun _ _ => rfl)) (by rfl)) (pw_or1 (pt_cmpR op_lt (pv 3) pe_int (nomark _))))) (pss_one (ps_set (i := 3) nd rfl (.inl rfl) (pe_op op_add (pv 3) pe_int))))
    (pss_cons (ps_for (passes_of rfl) rfl (pi_list (pe_lst (pa_cons pe_non (pa_cons pe_int (pa_cons (pe_lst pa_nil) (pa_cons pe_str (pa_cons (pe_slice sl_tup (pv 2) po_none (po_some pe_int)) (pa_cons (pe_callTy call_list_of (by rfl) mList (by decide +kernel) (pa_cons (pv 2) pa_nil)) (pa_cons (pe_tup (pa_cons pe_str (pa_cons (pe_ix (r := rIxT K) ix_tup (pv 2) pe_int (fun _ _ => rfl)) (pa_cons (pe_ix (r := rIxT K) ix_tup (pv 2) pe_int (fun _ _ => rfl)) (pa_cons (pe_ix (r := rIxT K) ix_tup (pv 2) pe_int (fun _ _ => rfl)) (pa_cons (pe_op op_cat (pe_ix (r := rIxT K) ix_tup (pv 2) pe_int (fun _ _ => rfl)) (pe_lst (pa_cons pe_non pa_nil))) pa_nil)))))) (pa_cons (pe_tup (pa_cons pe_str (pa_cons (pe_lst pa_nil) (pa_cons (pe_lst pa_nil) (pa_cons (pe_lst (pa_cons (pe_un un_neg pe_int) pa_nil)) (pa_cons (pe_lst pa_nil) pa_nil)))))) pa_nil)))))))))) (pg_name (i := 4) nd rfl (.inr rfl)) (pss_one (ps_if (pt_cmpR (op_neD hr.units) (pe_lc (own := [("which", 5)]) (g := gName 5) rfl nd (pi_range1 (by rfl) mRange (pa_cons pe_int pa_nil)) (blkOk_by (own := [("which", 5)]) (N := NLw) (sc := defScope sLaw) (by decide +kernel)) (fun _ _ _ _ _ => pg_name (i := 5) nd rfl (Or.inl rfl)) (fun _ _ _ _ _ => pts_one (pt_not (pt_val (pe_callGd GO (hr.mono (by decide)) hG (by rfl) mO kO bO .nil pass0 (pa_cons (pe_callGd GC (hr.mono (by decide)) hG (by rfl) mC kC bC .nil pass0 (pa_cons (pv 5) (pa_cons (pv 4) (pa_cons pe_non pa_nil)))) (pa_cons pe_int (pa_cons (pv 4) pa_nil))))))) (fun _ _ _ _ _ => (pv 5))) (pe_lst pa_nil) (nomark _)) (pss_one (ps_ret pe_bl)) pss_nil)))
    (pss_cons (ps_set (i := 6) nd rfl (.inl rfl) (l_lst Vw (l_cons Vw l_non (l_cons Vw l_int (l_cons Vw l_str (l_cons Vw (l_tup Vw l_nil) (l_cons Vw (l_tup Vw (l_cons Vw l_str l_nil)) (l_cons Vw (l_tup Vw (l_cons Vw l_str (l_cons Vw l_str (l_cons Vw (l_ivar (pv 3) ho) l_nil)))) (l_cons Vw (l_tup Vw (l_cons Vw l_str (l_cons Vw (l_of (d := fun _ => .str "next") (pe_ix (r := rIxL K) ix_list (pe_ix (r := rIxT K) ix_tup (pv 2) pe_int (fun _ _ => rfl)) pe_int (fun _ _ => rfl)) fun σ H Q p q => hC σ H Q p (q _ H (L2.Same.refl H) (by simp only [Lit]))) (l_cons Vw (l_ivar (pv 3) ho) (l_cons Vw (l_ivar (pv 3) ho) l_nil))))) (l_cons Vw (l_lst Vw (l_cons Vw l_str (l_cons Vw l_str (l_cons Vw l_int l_nil)))) (l_cons Vw (l_tup Vw (l_cons Vw l_str (l_cons Vw (l_of (d := fun _ => .str "next") (pe_ix (r := rIxL K) ix_list (pe_ix (r := rIxT K) ix_tup (pv 2) pe_int (fun _ _ => rfl)) pe_int (fun _ _ => rfl)) fun σ H Q p q => hC σ H Q p (q _ H (L2.Same.refl H) (by simp only [Lit]))) (l_cons Vw l_bl (l_cons Vw (l_ivar (pv 3) ho) l_nil))))) l_nil)))))))))))
    (pss_cons (ps_for (passes_of rfl) rfl (pi_list (pe_op op_cat (pv 6) (pe_slice sl_list (pe_ix (r := rIxT K) ix_tup (pv 2) pe_int (fun _ _ => rfl)) po_none (po_some pe_int)))) (pg_name (i := 4) nd rfl (.inr rfl)) (pss_one (ps_if (pt_not (pt_val (pe_callGd GO (hr.mono (by decide)) hG rfl mO kO bO .nil pass0 (pa_cons (pe_callGd GC (hr.mono (by decide)) hG rfl mC kC bC .nil pass0 (pa_cons pe_int (pa_cons (pv 2) (pa_cons (pv 4) pa_nil)))) (pa_cons pe_int (pa_cons (pv 4) pa_nil)))))) (pss_one (ps_ret pe_bl)) pss_nil)))
    (pss_cons (ps_for (passes_of rfl) rfl (pi_list (pv 6)) (pg_name (i := 4) nd rfl (.inr rfl)) (pss_one (ps_if (pt_not (pt_val (pe_callGd GO (hr.mono (by decide)) hG rfl mO kO bO .nil pass0 (pa_cons (pe_callGd GC (hr.mono (by decide)) hG rfl mC kC bC .nil pass0 (pa_cons pe_int (pa_cons (pv 2) (pa_cons (pv 4) pa_nil)))) (pa_cons pe_int (pa_cons (pv 4) pa_nil)))))) (pss_one (ps_ret pe_bl)) pss_nil)))
    (pss_cons (ps_for (passes_of rfl) rfl (pi_list (pe_op op_cat (l_lst Vw (l_cons Vw l_non (l_cons Vw l_bl (l_cons Vw l_str (l_cons Vw (l_lst Vw (l_cons Vw l_int l_nil)) (l_cons Vw l_neg (l_cons Vw (l_of (d := fun _ => .int 1000000001) (pe_op op_add (pe_op op_pow9 pe_int pe_int) pe_int) fun σ H Q p q => ⟨rfl, rfl, 1000000000, 1, rfl, rfl, q _ H (L2.Same.refl H) (by simp [Lit])⟩) l_nil))))))) (pe_slice sl_list (pe_ix (r := rIxT K) ix_tup (pv 2) pe_int (fun _ _ => rfl)) po_none (po_some pe_int)))) (pg_name (i := 4) nd rfl (.inr rfl)) (pss_one (ps_if (pt_not (pt_val (pe_callGd GO (hr.mono (by decide)) hG rfl mO kO bO .nil pass0 (pa_cons (pe_callGd GC (hr.mono (by decide)) hG rfl mC kC bC .nil pass0 (pa_cons pe_int (pa_cons (pv 2) (pa_cons (pv 4) pa_nil)))) (pa_cons pe_int (pa_cons (pv 4) pa_nil)))))) (pss_one (ps_ret pe_bl)) pss_nil)))
    (pss_cons (ps_setLc (i := 8) (own := [("fact", 7)]) (g := gName 7) (tt := tYes) rfl nd rfl rfl (sw_true rfl rfl rfl rfl) (pi_list (pe_ix (r := rIxT K) ix_tup (pv 2) pe_int (fun _ _ => rfl))) (blkOk_by (own := [("fact", 7)]) (N := NLw) (sc := defScope sLaw) (by decide +kernel)) (fun _ _ _ _ _ => pg_name (i := 7) nd rfl (Or.inl rfl)) (fun _ _ _ _ _ => pts_nil) (fun _ _ _ _ _ => (pe_ix (r := rIxT K) ix_tup (pv 7) pe_int (fun _ _ => rfl))))
    (pss_cons (ps_for (passes_of rfl) rfl (pi_list (pe_op op_cat (l_lst Vw (l_cons Vw l_non (l_cons Vw l_bl (l_cons Vw l_str (l_cons Vw (l_lst Vw (l_cons Vw l_int l_nil)) (l_cons Vw l_neg (l_cons Vw (l_of (d := fun _ => .int 1000000001) (pe_op op_add (pe_op op_pow9 pe_int pe_int) pe_int) fun σ H Q p q => ⟨rfl, rfl, 1000000000, 1, rfl, rfl, q _ H (L2.Same.refl H) (by simp [Lit])⟩) (l_cons Vw (l_ivar (pv 3) ho) l_nil)))))))) (pe_slice sl_list (pv 8) po_none (po_some pe_int)))) (pg_name (i := 4) nd rfl (.inr rfl)) (pss_one (ps_if (pt_not (pt_val (pe_callGd GO (hr.mono (by decide)) hG rfl mO kO bO .nil pass0 (pa_cons (pe_callGd GC (hr.mono (by decide)) hG rfl mC kC bC .nil pass0 (pa_cons pe_int (pa_cons (pv 2) (pa_cons (pv 4) pa_nil)))) (pa_cons pe_int (pa_cons (pv 4) pa_nil)))))) (pss_one (ps_ret pe_bl)) pss_nil)))
    (pss_cons (ps_if (PW.pt (pw_or (pt_not (pt_val (pe_callGd GL (hr.mono (by decide)) hG rfl mL kL bL .nil pass0 (pa_cons (pv 2) (pa_cons (pv 3) pa_nil))))) (pw_or1 (pt_not (pt_val (pe_callGd0 GN (hr.mono (by decide)) hG rfl mN kN bN .nil pass0)))))) (pss_one (ps_ret pe_bl)) pss_nil)
    (pss_cons (ps_set (i := 9) nd rfl (.inr rfl) (pe_tup (pa_cons pe_str (pa_cons (pe_lst pa_nil) (pa_cons (pe_lst (pa_cons pe_str pa_nil)) (pa_cons (pe_listRg rfl (by rfl) mList (prg_1 (by rfl) mRange pe_int)) (pa_cons (pe_lst pa_nil) pa_nil)))))))
    (pss_cons (ps_if (PW.pt (pw_or (pt_not (pt_val (pe_callGd GO (hr.mono (by decide)) hG rfl mO kO bO .nil pass0 (pa_cons (pe_callGd GC (hr.mono (by decide)) hG rfl mC kC bC .nil pass0 (pa_cons pe_int (pa_cons (pv 9) (pa_cons pe_int pa_nil)))) (pa_cons pe_int (pa_cons pe_int pa_nil)))))) (pw_or1 (pt_not (pt_val (pe_callGd GO (hr.mono (by decide)) hG rfl mO kO bO .nil pass0 (pa_cons (pe_callGd GC (hr.mono (by decide)) hG rfl mC kC bC .nil pass0 (pa_cons pe_int (pa_cons (pv 9) (pa_cons (v_lst (is := []) (v_cons (v_tup (v_cons v_str (v_cons v_int v_nil))) (v_cons (v_tup (v_cons v_str (v_cons v_non v_nil))) v_nil))) pa_nil)))) (pa_cons pe_int (pa_cons pe_int pa_nil))))))))) (pss_one (ps_ret pe_bl)) pss_nil)
    (pss_cons (ps_if (pt_cmpR (op_neD hr.units) (pe_lc (own := [("bad", 4)]) (g := gName 4) rfl nd (pi_list (l_lst V0 (l_cons V0 l_int (l_cons V0 l_non (l_cons V0 l_neg (l_cons V0 (l_of (d := fun _ => .int 1000000001) (pe_op op_add (pe_op op_pow9 pe_int pe_int) pe_int) fun σ H Q p q => ⟨rfl, rfl, 1000000000, 1, rfl, rfl, q _ H (L2.Same.refl H) (by simp [Lit])⟩) (l_cons V0 l_bl (l_cons V0 l_str l_nil)))))))) (blkOk_by (own := [("bad", 4)]) (N := NLw) (sc := defScope sLaw) (by decide +kernel)) (fun _ _ _ _ _ => pg_name (i := 4) nd rfl (Or.inl rfl)) (fun _ _ _ _ _ => pts_one (pt_not (pt_val (pe_callGd GO (hr.mono (by decide)) hG (by rfl) mO kO bO .nil pass0 (pa_cons (pe_callGd GC (hr.mono (by decide)) hG (by rfl) mC kC bC .nil pass0 (pa_cons pe_int (pa_cons (pv 9) (pa_cons (pv 4) pa_nil)))) (pa_cons pe_int (pa_cons (pv 4) pa_nil))))))) (fun _ _ _ _ _ => (pv 4))) (pe_lst pa_nil) (nomark _)) (pss_one (ps_ret pe_bl)) pss_nil)
    (pss_cons (ps_set (i := 10) nd rfl (.inl rfl) (pe_lst (pa_cons pe_non pa_nil)))
    (pss_cons (ps_set (i := 11) nd rfl (.inl rfl) (pe_callGd GC (hr.mono (by decide)) hG rfl mC kC bC .nil pass0 (pa_cons pe_int (pa_cons (pv 2) (pa_cons (pv 10) pa_nil)))))
    (pss_cons (ps_expr (pe_bm PySem.F.plainAttrs_list PySem.F.slot_list_append PySem.F.type_list_append mt_append (pv 10) (pa_cons pe_int pa_nil)))
    (pss_one (ps_ret (pe_and (pe_cmpR (op_eqD hr.units) (pe_ix (r := rIxT K) ix_tup (pv 11) pe_int (fun _ _ => rfl)) (pe_lst (pa_cons pe_non (pa_cons pe_int pa_nil))) (nomark _)) (pe_and (pe_cmpR (op_eqD hr.units) (pe_callGd GC (hr.mono (by decide)) hG rfl mC kC bC .nil pass0 (pa_cons pe_int (pa_cons (pv 2) (pa_cons (pv 3) pa_nil)))) (pe_tup (pa_cons (pe_op op_rep (pe_lst (pa_cons pe_bl pa_nil)) pe_int) (pa_cons pe_non pa_nil))) (nomark _)) (pe_one (pe_cmpR (op_eqD hr.units) (pe_callGd GC (hr.mono (by decide)) hG rfl mC kC bC .nil pass0 (pa_cons pe_int (pa_cons (pv 9) (pa_cons (v_lst (is := []) (v_cons (v_tup (v_cons v_str (v_cons v_int v_nil))) (v_cons (v_tup (v_cons v_str (v_cons v_int v_nil))) v_nil))) pa_nil)))) (pe_tup (pa_cons (pe_op op_rep (pe_lst (pa_cons pe_bl pa_nil)) pe_int) (pa_cons pe_non pa_nil))) (nomark _))))))))))))))))))))))))), ?_⟩
  refine ⟨_, rfl, a, ns, 0, rfl, by decide, L, fun g H1 s1 n1 gen1 => ?_⟩
  refine ⟨_, rfl, g, 9, _, rfl, by decide, gen1, by omega, fun v S H2 D k2 A2 _ _ => ?_⟩
  have sS : SmZ 60 500000 S.d := (sm_store D (by decide)).z.mono (by decide) (by decide)
  obtain ⟨t, ma, ca, ia, fa, rs, ev, ht, hma, hca, hia, hfa, tp⟩ := id A2
  subst ev
  -- a free number
  refine ⟨_, rfl, t, _, 3, .ref ia, rfl, rfl, .inl (.inl ht), atI_nat (j := 3) rfl, by show 1 ≤ sizeLine; decide, fun p1 n1 => ?_⟩
  have few := D.few
  refine ⟨ia, p1, _, _, rfl, rfl, same_new n1 _ _ hia, upd_same, (by rw [sizeLine_eq, List.length_map]; show S.items.length + 1 ≤ _; omega), fun p2 n2 => ?_⟩
  refine ⟨1, rfl, p2, _, -1, .int 0, rfl, rfl, SqL.of upd_same, atI_last _ _, 0, 1, rfl, rfl, ?_⟩
  have s3 : Same H2 (upd (upd H2 p1 (.lst [.int 0])) p2 (.lst (S.items.map V.int ++ [.int 0]))) := (same_new n1).trans (same_new n2)
  generalize upd (upd H2 p1 (.lst [.int 0])) p2 (.lst (S.items.map V.int ++ [.int 0])) = H3 at s3 ⊢
  refine while_by (fun σ H' => ∃ free : Int, σ = [some (.ref a), some (.ref g), some (.ref t), some (.int free), none, none, none, none, none, none, none, none] ∧ Same H2 H' ∧ -1 ≤ free ∧ ∀ j, 0 ≤ j → j < free → j ∈ S.items) (fun σ _ => (10 - slotI 3 σ).toNat)
    ⟨0 - 1, rfl, s3, by decide, fun j h0 h1 => by omega⟩ (fun σ H' hP => ?_) fun σ H' Q Q' h hc => ?_
  · obtain ⟨free, rfl, s', lo, all⟩ := hP
    have e1 : slotI 3 [some (V.ref a), some (.ref g), some (.ref t), some (.int free), none, none, none, none, none, none, none, none] = free := rfl
    have bd := free_few D.items.nodup all
    refine ⟨_, rfl, _, rfl, t, _, 3, .ref ia, rfl, rfl, .inl (.inl (s' _ _ ht)), atI_nat (j := 3) rfl, ia, _, rfl, .inl (SqL.of (s' _ _ hia)), rfl, flat_intsV _, ?_⟩
    rw [inV_int]
    refine ⟨_, rfl, ite2 (fun c => ?_) fun c => ?_⟩
    · have c := of_decide_eq_true c
      refine ⟨_, rfl, _, _, rfl, rfl, ⟨free + 1, rfl, s', by omega, fun j j0 j1 => ?_⟩, ?_⟩
      · by_cases e : j = free
        · rw [e]; exact c
        · exact all j j0 (by omega)
      · show (10 - (free + 1)).toNat < (10 - free).toNat
        omega
    · have nf : free ∉ S.items := fun h => c (decide_eq_true h)
      refine ⟨_, rfl, _, _, rfl, rfl, _, rfl, ite2 (fun c2 => ?_) fun c2 => ?_⟩
      · have c2 := of_decide_eq_true c2
        refine ⟨_, rfl, _, _, rfl, rfl, ⟨free + 1, rfl, s', by omega, fun j j0 j1 => by omega⟩, ?_⟩
        show (10 - (free + 1)).toNat < (10 - free).toNat
        omega
      have h0 : 0 ≤ free := by
        apply Classical.byContradiction
        intro h
        exact c2 (decide_eq_true (by omega))
      have h1 : free ≤ 1000000000 := by omega
      clear c c2 lo all bd e1
      -- what is no store
      have s0 := s'
      refine ⟨Nat.zero_le _, fun l1 nl1 => ?_⟩
      have t1 := same_new nl1 (o := .lst [])
      have f1 : upd H' l1 (.lst []) l1 = some (.lst []) := upd_same
      generalize upd H' l1 (.lst []) = J1 at t1 f1 ⊢
      have u1 := s0.trans t1
      refine ⟨_, rfl, _, rfl, t, _, rfl, .inl (.inl (u1 _ _ ht)), (fun z => absurd z.2 (show ¬ HT.sIx 5 5 (some 4) = 5 by decide)), fun l2 nl2 => ?_⟩
      rw [show cutV [V.str "store", .ref ma, .ref ca, .ref ia, .ref fa] none (some 4) = [.str "store", .ref ma, .ref ca, .ref ia] from rfl]
      have t2 := same_new nl2 (o := .tup [.str "store", .ref ma, .ref ca, .ref ia])
      have f2 : upd J1 l2 (.tup [.str "store", .ref ma, .ref ca, .ref ia]) l2 = some (.tup [.str "store", .ref ma, .ref ca, .ref ia]) := upd_same
      generalize upd J1 l2 (.tup [.str "store", .ref ma, .ref ca, .ref ia]) = J2 at t2 f2 ⊢
      have u2 := u1.trans t2
      refine ⟨_, rfl, t, _, rfl, .inr (.inl (.inl (u2 _ _ ht))), fun l3 nl3 => ?_⟩
      have t3 := same_new nl3 (o := .lst [.str "store", .ref ma, .ref ca, .ref ia, .ref fa])
      have f3 : upd J2 l3 (.lst [.str "store", .ref ma, .ref ca, .ref ia, .ref fa]) l3 = some (.lst [.str "store", .ref ma, .ref ca, .ref ia, .ref fa]) := upd_same
      generalize upd J2 l3 (.lst [.str "store", .ref ma, .ref ca, .ref ia, .ref fa]) = J3 at t3 f3 ⊢
      have u3 := u2.trans t3
      refine ⟨_, rfl, t, _, 1, .ref ma, rfl, rfl, .inl (.inl (u3 _ _ ht)), atI_nat (j := 1) rfl, _, rfl, t, _, 2, .ref ca, rfl, rfl, .inl (.inl (u3 _ _ ht)), atI_nat (j := 2) rfl, _, rfl, t, _, 3, .ref ia, rfl, rfl, .inl (.inl (u3 _ _ ht)), atI_nat (j := 3) rfl, _, rfl, t, _, 4, .ref fa, rfl, rfl, .inl (.inl (u3 _ _ ht)), atI_nat (j := 4) rfl, by show 1 ≤ sizeLine; decide, fun l4 nl4 => ?_⟩
      have t4 := same_new nl4 (o := .lst [.non])
      have f4 : upd J3 l4 (.lst [.non]) l4 = some (.lst [.non]) := upd_same
      generalize upd J3 l4 (.lst [.non]) = J4 at t4 f4 ⊢
      have u4 := u3.trans t4
      refine ⟨fa, l4, _, _, rfl, rfl, u4 _ _ hfa, f4, Nat.le_trans (show rs.length + 1 ≤ 1001 by rw [tp.length, List.length_map]; have := D.short; omega) (by decide), fun l5 nl5 => ?_⟩
      have t5 := same_new nl5 (o := .lst (rs ++ [.non]))
      have f5 : upd J4 l5 (.lst (rs ++ [.non])) l5 = some (.lst (rs ++ [.non])) := upd_same
      generalize upd J4 l5 (.lst (rs ++ [.non])) = J5 at t5 f5 ⊢
      have u5 := u4.trans t5
      refine ⟨by show 5 ≤ sizeLine; decide, fun l6 nl6 => ?_⟩
      have t6 := same_new nl6 (o := .tup [.str "store", .ref ma, .ref ca, .ref ia, .ref l5])
      have f6 : upd J5 l6 (.tup [.str "store", .ref ma, .ref ca, .ref ia, .ref l5]) l6 = some (.tup [.str "store", .ref ma, .ref ca, .ref ia, .ref l5]) := upd_same
      generalize upd J5 l6 (.tup [.str "store", .ref ma, .ref ca, .ref ia, .ref l5]) = J6 at t6 f6 ⊢
      have u6 := u5.trans t6
      refine ⟨Nat.zero_le _, fun l7 nl7 => ?_⟩
      have t7 := same_new nl7 (o := .lst [])
      have f7 : upd J6 l7 (.lst []) l7 = some (.lst []) := upd_same
      generalize upd J6 l7 (.lst []) = J7 at t7 f7 ⊢
      have u7 := u6.trans t7
      refine ⟨Nat.zero_le _, fun l8 nl8 => ?_⟩
      have t8 := same_new nl8 (o := .lst [])
      have f8 : upd J7 l8 (.lst []) l8 = some (.lst []) := upd_same
      generalize upd J7 l8 (.lst []) = J8 at t8 f8 ⊢
      have u8 := u7.trans t8
      refine ⟨1, rfl, by show 1 ≤ sizeLine; decide, fun l9 nl9 => ?_⟩
      have t9 := same_new nl9 (o := .lst [.int (-1)])
      have f9 : upd J8 l9 (.lst [.int (-1)]) l9 = some (.lst [.int (-1)]) := upd_same
      generalize upd J8 l9 (.lst [.int (-1)]) = J9 at t9 f9 ⊢
      have u9 := u8.trans t9
      refine ⟨Nat.zero_le _, fun l10 nl10 => ?_⟩
      have t10 := same_new nl10 (o := .lst [])
      have f10 : upd J9 l10 (.lst []) l10 = some (.lst []) := upd_same
      generalize upd J9 l10 (.lst []) = J10 at t10 f10 ⊢
      have u10 := u9.trans t10
      refine ⟨by show 5 ≤ sizeLine; decide, fun l11 nl11 => ?_⟩
      have t11 := same_new nl11 (o := .tup [.str "store", .ref l7, .ref l8, .ref l9, .ref l10])
      have f11 : upd J10 l11 (.tup [.str "store", .ref l7, .ref l8, .ref l9, .ref l10]) l11 = some (.tup [.str "store", .ref l7, .ref l8, .ref l9, .ref l10]) := upd_same
      generalize upd J10 l11 (.tup [.str "store", .ref l7, .ref l8, .ref l9, .ref l10]) = J11 at t11 f11 ⊢
      have u11 := u10.trans t11
      refine ⟨by show 8 ≤ sizeLine; decide, fun l12 nl12 => ?_⟩
      have t12 := same_new nl12 (o := .lst [.non, .int 7, .ref l1, .str "store", .ref l2, .ref l3, .ref l6, .ref l11])
      have f12 : upd J11 l12 (.lst [.non, .int 7, .ref l1, .str "store", .ref l2, .ref l3, .ref l6, .ref l11]) l12 = some (.lst [.non, .int 7, .ref l1, .str "store", .ref l2, .ref l3, .ref l6, .ref l11]) := upd_same
      generalize upd J11 l12 (.lst [.non, .int 7, .ref l1, .str "store", .ref l2, .ref l3, .ref l6, .ref l11]) = J12 at t12 f12 ⊢
      have u12 := u11.trans t12
      have tp12 : Tups J12 rs (S.facts.map Fact.v) := tp.keep (tk_same u12)
      have w11 := t12
      have w10 := t11.trans w11
      have w9 := t10.trans w10
      have w8 := t9.trans w9
      have w7 := t8.trans w8
      have w6 := t7.trans w7
      have w5 := t6.trans w6
      have w4 := t5.trans w5
      have w3 := t4.trans w4
      have w2 := t3.trans w3
      have w1 := t2.trans w2
      have bads : ∀ x ∈ [V.non, .int 7, .ref l1, .str "store", .ref l2, .ref l3, .ref l6, .ref l11], BadV K J12 x := fun x hx => by
        simp only [List.mem_cons, List.not_mem_nil, or_false] at hx
        rcases hx with rfl | rfl | rfl | rfl | rfl | rfl | rfl | rfl
        · exact badV_flat .non ((sm_none.z).mono (by decide) (Nat.le_refl _)) (by decide) fun ds e => by cases e
        · exact badV_flat (.int 7) ((sm_int (by decide) (by decide)).z.mono (by decide) (Nat.le_refl _)) (by decide) fun ds e => by cases e
        · exact badV_flat (.lst (SqL.of (w1 _ _ f1)) .nil) ((smzl_nil (k := 0)).list.mono (by decide) (Nat.le_refl _)) (by decide) fun ds e => by cases e
        · exact badV_flat (.str _) ((sm_str (n := 10) (by decide +kernel) (by decide +kernel)).z.mono (by decide) (Nat.le_refl _)) (by decide) fun ds e => by cases e
        · exact badV_four D (by decide) (w2 _ _ f2) (u12 _ _ hma) (u12 _ _ hca) (u12 _ _ hia)
        · exact badV_list D (by decide) (w3 _ _ f3) (u12 _ _ hma) (u12 _ _ hca) (u12 _ _ hia) (u12 _ _ hfa) tp12
        · exact badV_facts D (by decide) (w6 _ _ f6) (u12 _ _ hma) (u12 _ _ hca) (u12 _ _ hia) (w5 _ _ f5) tp12
        · exact badV_neg (w11 _ _ f11) (w7 _ _ f7) (w8 _ _ f8) (w9 _ _ f9) (w10 _ _ f10)
      clear w11 w10 w9 w8 w7 w6 w5 w4 w3 w2 w1 t1 t2 t3 t4 t5 t6 t7 t8 t9 t10 t11 t12 u1 u2 u3 u4 u5 u6 u7 u8 u9 u10 u11
      refine ⟨l12, rfl, ⟨_, SqL.of f12⟩, for_list (K := K) (a := l12) (xs := [V.non, .int 7, .ref l1, .str "store", .ref l2, .ref l3, .ref l6, .ref l11]) (fun k σ H' => ∃ y, σ = [some (.ref a), some (.ref g), some (.ref t), some (.int free), y, none, none, none, none, none, none, none] ∧ Same J12 H') ⟨none, rfl, fun _ _ h => h⟩ (fun k σ H' _ hP => ?_) (fun k x σ H' hx hP => ?_) fun σ H' hP => ?_⟩
      · obtain ⟨y, rfl, s'⟩ := hP
        exact SqL.of (s' _ _ f12)
      · obtain ⟨y, rfl, s'⟩ := hP
        obtain ⟨d, hd, smd, no⟩ := (bads x (List.mem_of_getElem? hx)).same s'
        refine ⟨5, rfl, by decide, by decide, fun Dl nDl => lc_none (walk_range (lo := 0) (n := (5 : Int).toNat)) (by decide) nDl (fun _ _ => trivial) (fun j H' v H'' y => by rw [y.1]; exact fun _ _ h => h) (fun j v H3 H4 hj s3 y R N0 N => ?_) fun H3 s3 e3 => ?_⟩
        · obtain ⟨rfl, rfl⟩ := y
          have A := (ask_bad (dM := dM) (C0 := C0) (CF := CF) (CI := CI) (CL := CL) (CT := CT) (n := 0 + (j : Nat)) hd smd no).same s3
          refine ⟨rfl, _, rfl, _, rfl, c_read (nil_read ?_)⟩
          refine ask_caught A nd5 fun T L H5 s5 hT hL => ?_
          refine ⟨_, rfl, nil_read ?_⟩
          refine ask_only A s5 hT hL fun H6 s6 => ?_
          exact ⟨_, rfl, ite2 (fun c => absurd c (by simp)) fun _ => N _ (s5.trans s6)⟩
        · refine ⟨Nat.zero_le _, fun E1 nE1 => ⟨.list [], .list [], .lst (SqL.of (same_new nE1 _ _ e3)) .nil, .lst (SqL.of upd_same) .nil, rfl, rfl, false, rfl, ?_⟩⟩
          exact ⟨_, rfl, (s'.trans s3).trans (same_new nE1)⟩
      obtain ⟨y, rfl, s'⟩ := hP
      have s1 := u12.trans s'
      clear s' bads
      -- what is no fact
      refine ⟨⟨⟨free, rfl⟩, .ref t, S, 9, rfl, stoAt_same s1 A2, D⟩, fun ov K1 q1 lit => ?_⟩
      have lit : Lit K1 (.list (oddD free "next")) ov := lit
      simp only [Lit] at lit
      obtain ⟨oa, xs, rfl, eo, lx⟩ := lit
      have s2 := s1.trans q1
      have lx10 : xs.length ≤ 10 := by rw [lits_len lx]; show 9 ≤ 10; decide
      have nextW : ("next" : Str) ∈ drawnWords := by simp [drawnWords]
      refine ⟨_, rfl, _, rfl, t, _, 4, .ref fa, rfl, rfl, .inl (.inl (s2 _ _ ht)), atI_nat (j := 4) rfl, _, rfl, fa, _, rfl, SqL.of (s2 _ _ hfa), fun p1 np1 => ?_⟩
      rw [cut_take (show (0 : Int) ≤ 1 by decide)]
      have t2 := same_new np1 (o := .lst (rs.take (1 : Int).toNat))
      have f2 : upd K1 p1 (.lst (rs.take (1 : Int).toNat)) p1 = some (.lst (rs.take (1 : Int).toNat)) := upd_same
      generalize upd K1 p1 (.lst (rs.take (1 : Int).toNat)) = K2 at t2 f2 ⊢
      refine ⟨oa, p1, _, _, rfl, rfl, t2 _ _ eo, f2, Nat.le_trans (show xs.length + (rs.take (1 : Int).toNat).length ≤ 20 by rw [List.length_take]; have := Nat.min_le_left (1 : Int).toNat rs.length; have e : (1 : Int).toNat = 1 := rfl; omega) (by decide), fun p2 np2 => ?_⟩
      have t3 := same_new np2 (o := .lst (xs ++ rs.take (1 : Int).toNat))
      have f3 : upd K2 p2 (.lst (xs ++ rs.take (1 : Int).toNat)) p2 = some (.lst (xs ++ rs.take (1 : Int).toNat)) := upd_same
      generalize upd K2 p2 (.lst (xs ++ rs.take (1 : Int).toNat)) = K3 at t3 f3 ⊢
      have s3 := (s2.trans t2).trans t3
      have A3 := stoAt_same s3 A2
      have lx3 : ∀ x ∈ xs, ∃ d ∈ oddD free "next", Dp K K3 x d := fun x hx => by
        obtain ⟨d, hd, dp⟩ := lits_mem (K := K) lx x hx
        exact ⟨d, hd, dp_same (t2.trans t3) _ _ dp⟩
      have each0 : ∀ x ∈ xs ++ rs.take (1 : Int).toNat, Ask K dM C0 CF CI CL CT K3 0 (.ref t) x x 1 := fun x hx => by
        rcases List.mem_append.mp hx with h | h
        · obtain ⟨d, hd, dp⟩ := lx3 x h
          exact ask_noFact (.inl rfl) A3 D (by decide) sS dp (oddD_small h0 h1 d hd) (odd_parts nextW d hd) (odd_bad nf d hd)
        · obtain ⟨y, hy, b, rfl, hb⟩ := tups_mem tp (take_in h)
          exact ask_noPut A3 D (by decide) sS (s3 _ _ hb) hy
      have each1 : ∀ x ∈ xs, Ask K dM C0 CF CI CL CT K3 1 (.ref t) x x 1 := fun x h => by
        obtain ⟨d, hd, dp⟩ := lx3 x h
        exact ask_noFact (.inr rfl) A3 D (by decide) sS dp (oddD_small h0 h1 d hd) (odd_parts nextW d hd) (odd_bad nf d hd)
      refine ⟨p2, rfl, ⟨_, SqL.of f3⟩, for_list (K := K) (a := p2) (xs := xs ++ rs.take (1 : Int).toNat) (fun k σ H' => ∃ y, σ = [some (.ref a), some (.ref g), some (.ref t), some (.int free), y, none, some (.ref oa), none, none, none, none, none] ∧ Same K3 H') ⟨_, rfl, fun _ _ h => h⟩ (fun k σ H' _ hP => ?_) (fun k x σ H' hx hP => ?_) fun σ H' hP => ?_⟩
      · obtain ⟨y, rfl, s'⟩ := hP
        exact SqL.of (s' _ _ f3)
      · obtain ⟨y, rfl, s'⟩ := hP
        have A := (each0 x (List.mem_of_getElem? hx)).same s'
        refine ⟨_, rfl, _, rfl, nil_read ?_⟩
        refine ask_caught A nd5 fun T L H5 s5 hT hL => ?_
        refine ⟨_, rfl, nil_read ?_⟩
        refine ask_only A s5 hT hL fun H6 s6 => ?_
        exact ⟨_, rfl, ite2 (fun c => absurd c (by simp)) fun _ => ⟨_, rfl, (s'.trans s5).trans s6⟩⟩
      obtain ⟨y, rfl, s'⟩ := hP
      have each1 : ∀ x ∈ xs, Ask K dM C0 CF CI CL CT H' 1 (.ref t) x x 1 := fun x h => (each1 x h).same s'
      have eo4 := s' _ _ ((t2.trans t3) _ _ eo)
      have s4 := s3.trans s'
      clear each0 lx3 lx s' f2 f3 t2 t3
      generalize H' = K4 at each1 eo4 s4 ⊢
      refine ⟨_, rfl, ?_⟩
      refine ⟨oa, rfl, ⟨_, SqL.of eo4⟩, for_list (K := K) (a := oa) (xs := xs) (fun k σ H' => ∃ y, σ = [some (.ref a), some (.ref g), some (.ref t), some (.int free), y, none, some (.ref oa), none, none, none, none, none] ∧ Same K4 H') ⟨_, rfl, fun _ _ h => h⟩ (fun k σ H' _ hP => ?_) (fun k x σ H' hx hP => ?_) fun σ H' hP => ?_⟩
      · obtain ⟨y, rfl, s'⟩ := hP
        exact SqL.of (s' _ _ eo4)
      · obtain ⟨y, rfl, s'⟩ := hP
        have A := (each1 x (List.mem_of_getElem? hx)).same s'
        refine ⟨_, rfl, _, rfl, nil_read ?_⟩
        refine ask_caught A nd5 fun T L H5 s5 hT hL => ?_
        refine ⟨_, rfl, nil_read ?_⟩
        refine ask_only A s5 hT hL fun H6 s6 => ?_
        exact ⟨_, rfl, ite2 (fun c => absurd c (by simp)) fun _ => ⟨_, rfl, (s'.trans s5).trans s6⟩⟩
      obtain ⟨y, rfl, s'⟩ := hP
      have s5 := s4.trans s'
      clear each1 s'
      generalize H' = K5 at s5 ⊢
      -- what cannot be a new item
      refine ⟨⟨⟨free, rfl⟩, .ref t, S, 9, rfl, stoAt_same s5 A2, D⟩, fun lv K6 q6 lit => ?_⟩
      have lit : Lit K6 (.list oddI) lv := lit
      simp only [Lit] at lit
      obtain ⟨la, zs, rfl, ea, lx⟩ := lit
      have s6 := s5.trans q6
      have lz : zs.length ≤ 10 := by rw [lits_len lx]; show 6 ≤ 10; decide
      refine ⟨_, rfl, t, _, 3, .ref ia, rfl, rfl, .inl (.inl (s6 _ _ ht)), atI_nat (j := 3) rfl, _, rfl, ia, _, rfl, SqL.of (s6 _ _ hia), fun p1 np1 => ?_⟩
      rw [cut_take (show (0 : Int) ≤ 1 by decide)]
      have t7 := same_new np1 (o := .lst ((S.items.map V.int).take (1 : Int).toNat))
      have f7 : upd K6 p1 (.lst ((S.items.map V.int).take (1 : Int).toNat)) p1 = some (.lst ((S.items.map V.int).take (1 : Int).toNat)) := upd_same
      generalize upd K6 p1 (.lst ((S.items.map V.int).take (1 : Int).toNat)) = K7 at t7 f7 ⊢
      refine ⟨la, p1, _, _, rfl, rfl, t7 _ _ ea, f7, Nat.le_trans (show zs.length + ((S.items.map V.int).take (1 : Int).toNat).length ≤ 20 by rw [List.length_take]; have := Nat.min_le_left (1 : Int).toNat (S.items.map V.int).length; have e : (1 : Int).toNat = 1 := rfl; omega) (by decide), fun p2 np2 => ?_⟩
      have t8 := same_new np2 (o := .lst (zs ++ (S.items.map V.int).take (1 : Int).toNat))
      have f8 : upd K7 p2 (.lst (zs ++ (S.items.map V.int).take (1 : Int).toNat)) p2 = some (.lst (zs ++ (S.items.map V.int).take (1 : Int).toNat)) := upd_same
      generalize upd K7 p2 (.lst (zs ++ (S.items.map V.int).take (1 : Int).toNat)) = K8 at t8 f8 ⊢
      have s8 := (s6.trans t7).trans t8
      have A8 := stoAt_same s8 A2
      have each0 : ∀ x ∈ zs ++ (S.items.map V.int).take (1 : Int).toNat, Ask K dM C0 CF CI CL CT K8 2 (.ref t) x x 2 := fun x hx => by
        rcases List.mem_append.mp hx with h | h
        · obtain ⟨d, hd, dp⟩ := lits_mem (K := K) lx x h
          exact ask_noAdd A8 D (by decide) sS (dp_same (t7.trans t8) _ _ dp) (oddI_small d hd) (.inl (oddI_bad S.items d hd).1)
        · obtain ⟨i, hi, rfl⟩ := List.mem_map.mp (take_in h)
          exact ask_noAdd A8 D (by decide) sS (.int i) (item_small (D.items.2 i hi)) (.inr (okItem_of D.items.2 hi))
      refine ⟨p2, rfl, ⟨_, SqL.of f8⟩, for_list (K := K) (a := p2) (xs := zs ++ (S.items.map V.int).take (1 : Int).toNat) (fun k σ H' => ∃ y, σ = [some (.ref a), some (.ref g), some (.ref t), some (.int free), y, none, some (.ref oa), none, none, none, none, none] ∧ Same K8 H') ⟨_, rfl, fun _ _ h => h⟩ (fun k σ H' _ hP => ?_) (fun k x σ H' hx hP => ?_) fun σ H' hP => ?_⟩
      · obtain ⟨y, rfl, s'⟩ := hP
        exact SqL.of (s' _ _ f8)
      · obtain ⟨y, rfl, s'⟩ := hP
        have A := (each0 x (List.mem_of_getElem? hx)).same s'
        refine ⟨_, rfl, _, rfl, nil_read ?_⟩
        refine ask_caught A nd5 fun T L H5 s5 hT hL => ?_
        refine ⟨_, rfl, nil_read ?_⟩
        refine ask_only A s5 hT hL fun H6 s6 => ?_
        exact ⟨_, rfl, ite2 (fun c => absurd c (by simp)) fun _ => ⟨_, rfl, (s'.trans s5).trans s6⟩⟩
      obtain ⟨y, rfl, s'⟩ := hP
      have s9 := s8.trans s'
      clear each0 s' f7 f8 t7 t8 lx
      generalize H' = K9 at s9 ⊢
      -- what is no item, or stands in a fact
      refine ⟨_, rfl, t, _, 4, .ref fa, rfl, rfl, .inl (.inl (s9 _ _ ht)), atI_nat (j := 4) rfl, fa, rfl, ⟨_, SqL.of (s9 _ _ hfa)⟩, fun hl nhl => ?_⟩
      have tp9 : Tups K9 rs (S.facts.map Fact.v) := tp.keep (tk_same s9)
      refine lc_opts (walk_list (K := K) (a := fa) (xs := rs)) (S.facts.map fun x => some (V.int x.third)) (by rw [List.length_map, tp.length, List.length_map]) (Nat.lt_of_le_of_lt (show rs.length ≤ 1000 by rw [tp.length, List.length_map]; exact D.short) (by decide)) nhl (fun H' s' => SqL.of (s' _ _ (s9 _ _ hfa)))
        (fun j H' v H'' y => by rw [y.1]; exact fun _ _ h => h) (fun j v H' H'' o hj ho s' y R N hR hN => ?_) (fun K10 t10 e10 => ?_)
      · obtain ⟨rfl, hv⟩ := y
        obtain ⟨b, tt, rfl, hb, k⟩ := Tups.get tp9 hv
        rw [List.getElem?_map] at k ho
        obtain ⟨y, hy, rfl⟩ := Option.map_eq_some_iff.mp k
        rw [hy] at ho
        injection ho with ho
        subst ho
        exact ⟨rfl, _, rfl, b, _, 2, _, rfl, rfl, .inl (.inl (s' _ _ hb)), third_at y, hR _ _ rfl fun _ _ h => h⟩
      have e10 : K10 hl = some (.lst (S.facts.map fun x => V.int x.third)) := by
        rw [e10, List.filterMap_map]
        exact congrArg some (congrArg HO.lst (List.filterMap_eq_map (f := fun x : Fact => V.int x.third) ▸ rfl))
      have s10 := s9.trans t10
      refine ⟨⟨⟨free, rfl⟩, .ref t, S, 9, rfl, stoAt_same s10 A2, D⟩, fun lv K11 q11 lit => ?_⟩
      have lit : Lit K11 (.list (oddI ++ [.int free])) lv := lit
      simp only [Lit] at lit
      obtain ⟨la, zs, rfl, ea, lx⟩ := lit
      have lz : zs.length ≤ 10 := by rw [lits_len lx]; show 7 ≤ 10; decide
      refine ⟨_, rfl, _, rfl, hl, _, rfl, SqL.of (q11 _ _ e10), fun p1 np1 => ?_⟩
      rw [cut_take (show (0 : Int) ≤ 1 by decide)]
      have t12 := same_new np1 (o := .lst ((S.facts.map fun x => V.int x.third).take (1 : Int).toNat))
      have f12 : upd K11 p1 (.lst ((S.facts.map fun x => V.int x.third).take (1 : Int).toNat)) p1 = some (.lst ((S.facts.map fun x => V.int x.third).take (1 : Int).toNat)) := upd_same
      generalize upd K11 p1 (.lst ((S.facts.map fun x => V.int x.third).take (1 : Int).toNat)) = K12 at t12 f12 ⊢
      refine ⟨la, p1, _, _, rfl, rfl, t12 _ _ ea, f12, Nat.le_trans (show zs.length + ((S.facts.map fun x => V.int x.third).take (1 : Int).toNat).length ≤ 20 by rw [List.length_take]; have := Nat.min_le_left (1 : Int).toNat (S.facts.map fun x => V.int x.third).length; have e : (1 : Int).toNat = 1 := rfl; omega) (by decide), fun p2 np2 => ?_⟩
      have t13 := same_new np2 (o := .lst (zs ++ (S.facts.map fun x => V.int x.third).take (1 : Int).toNat))
      have f13 : upd K12 p2 (.lst (zs ++ (S.facts.map fun x => V.int x.third).take (1 : Int).toNat)) p2 = some (.lst (zs ++ (S.facts.map fun x => V.int x.third).take (1 : Int).toNat)) := upd_same
      generalize upd K12 p2 (.lst (zs ++ (S.facts.map fun x => V.int x.third).take (1 : Int).toNat)) = K13 at t13 f13 ⊢
      have s13 := ((s10.trans q11).trans t12).trans t13
      have A13 := stoAt_same s13 A2
      have each0 : ∀ x ∈ zs ++ (S.facts.map fun x => V.int x.third).take (1 : Int).toNat, Ask K dM C0 CF CI CL CT K13 3 (.ref t) x x 2 := fun x hx => by
        rcases List.mem_append.mp hx with h | h
        · obtain ⟨d, hd, dp⟩ := lits_mem (K := K) lx x h
          rcases List.mem_append.mp hd with hd | hd
          · exact ask_noDrop A13 D (by decide) sS (dp_same (t12.trans t13) _ _ dp) (oddI_small d hd) (.inl (oddI_bad S.items d hd).2)
          · rw [List.mem_singleton.mp hd] at dp
            exact ask_noDrop A13 D (by decide) sS (dp_same (t12.trans t13) _ _ dp) (item_small ⟨h0, h1⟩) (.inl (by simp only [okItem, decide_eq_false nf, Bool.and_false]))
        · obtain ⟨y, hy, rfl⟩ := List.mem_map.mp (take_in h)
          obtain ⟨i1, i2⟩ := third_in D hy
          exact ask_noDrop A13 D (by decide) sS (.int _) (item_small (D.items.2 _ i1)) (.inr ⟨_, rfl, i1, i2⟩)
      refine ⟨p2, rfl, ⟨_, SqL.of f13⟩, for_list (K := K) (a := p2) (xs := zs ++ (S.facts.map fun x => V.int x.third).take (1 : Int).toNat) (fun k σ H' => ∃ y, σ = [some (.ref a), some (.ref g), some (.ref t), some (.int free), y, none, some (.ref oa), none, some (.ref hl), none, none, none] ∧ Same K13 H') ⟨_, rfl, fun _ _ h => h⟩ (fun k σ H' _ hP => ?_) (fun k x σ H' hx hP => ?_) fun σ H' hP => ?_⟩
      · obtain ⟨y, rfl, s'⟩ := hP
        exact SqL.of (s' _ _ f13)
      · obtain ⟨y, rfl, s'⟩ := hP
        have A := (each0 x (List.mem_of_getElem? hx)).same s'
        refine ⟨_, rfl, _, rfl, nil_read ?_⟩
        refine ask_caught A nd5 fun T L H5 s5 hT hL => ?_
        refine ⟨_, rfl, nil_read ?_⟩
        refine ask_only A s5 hT hL fun H6 s6 => ?_
        exact ⟨_, rfl, ite2 (fun c => absurd c (by simp)) fun _ => ⟨_, rfl, (s'.trans s5).trans s6⟩⟩
      obtain ⟨y, rfl, s'⟩ := hP
      have s14 := s13.trans s'
      clear each0 s' f12 f13 t12 t13 lx
      generalize H' = K14 at s14 ⊢
      -- lists of edits, near facts
      refine ⟨_, rfl, _, rfl, nil_read ?_⟩
      refine ⟨.ref t, S, free, rfl, stoAt_same s14 A2, D, nf, h0, h1, fun K15 t15 => ?_⟩
      refine ⟨_, rfl, ite2 (fun c => absurd c (by simp)) fun _ => ?_⟩
      refine ⟨rfl, fun K16 t16 => ?_⟩
      refine ⟨_, rfl, ite2 (fun c => absurd c (by simp)) fun _ => ?_⟩
      have s16 := (s14.trans t15).trans t16
      -- the full store
      refine ⟨Nat.zero_le _, fun e1 ne1 => ?_⟩
      have t17 := same_new ne1 (o := .lst [])
      have f17 : upd K16 e1 (.lst []) e1 = some (.lst []) := upd_same
      generalize upd K16 e1 (.lst []) = K17 at t17 f17 ⊢
      refine ⟨by show 1 ≤ sizeLine; decide, fun e2 ne2 => ?_⟩
      have t18 := same_new ne2 (o := .lst [.str "next"])
      have f18 : upd K17 e2 (.lst [.str "next"]) e2 = some (.lst [.str "next"]) := upd_same
      generalize upd K17 e2 (.lst [.str "next"]) = K18 at t18 f18 ⊢
      refine ⟨2000, rfl, RgOk.of_le (by decide) (by decide) (by decide) (by decide), fun e3 ne3 => ?_⟩
      rw [full_range]
      have t19 := same_new ne3 (o := .lst (fullS.items.map V.int))
      have f19 : upd K18 e3 (.lst (fullS.items.map V.int)) e3 = some (.lst (fullS.items.map V.int)) := upd_same
      generalize upd K18 e3 (.lst (fullS.items.map V.int)) = K19 at t19 f19 ⊢
      refine ⟨Nat.zero_le _, fun e4 ne4 => ?_⟩
      have t20 := same_new ne4 (o := .lst [])
      have f20 : upd K19 e4 (.lst []) e4 = some (.lst []) := upd_same
      generalize upd K19 e4 (.lst []) = K20 at t20 f20 ⊢
      refine ⟨by show 5 ≤ sizeLine; decide, fun e5 ne5 => ?_⟩
      have t21 := same_new ne5 (o := .tup [.str "store", .ref e1, .ref e2, .ref e3, .ref e4])
      have f21 : upd K20 e5 (.tup [.str "store", .ref e1, .ref e2, .ref e3, .ref e4]) e5 = some (.tup [.str "store", .ref e1, .ref e2, .ref e3, .ref e4]) := upd_same
      generalize upd K20 e5 (.tup [.str "store", .ref e1, .ref e2, .ref e3, .ref e4]) = K21 at t21 f21 ⊢
      have F21 : StoAt K21 (.ref e5) fullS := ⟨e5, e1, e2, e3, e4, [], rfl, f21, (((t18.trans t19).trans t20).trans t21) _ _ f17, ((t19.trans t20).trans t21) _ _ f18, (t20.trans t21) _ _ f19, t21 _ _ f20, .nil⟩
      have s21 := ((((s16.trans t17).trans t18).trans t19).trans t20).trans t21
      clear f17 f18 f19 f20 f21 t17 t18 t19 t20 t21
      have full : 2000 ≤ fullS.items.length := by rw [full_len]; exact Nat.le_refl _
      have n2000 : (2000 : Int) ∉ fullS.items := fun h => by have := full_mem.mp h; omega
      have B1 : Ask K dM C0 CF CI CL CT K21 2 (.ref e5) (.int 2000) (.int 2001) 4 := by
        have h := ask_many (K := K) (dM := dM) (C0 := C0) (CF := CF) (CI := CI) (CL := CL) (CT := CT) (i := 2000) F21 full_drawn (by decide) full_small (by decide) (by decide) n2000 full
        rw [full_len] at h
        exact h
      refine ⟨_, rfl, c_read (nil_read ?_)⟩
      refine ask_caught B1 nd5 fun T L K22 t22 hT hL => ?_
      refine c_read (c_read (nil_read ?_))
      refine ask_only B1 t22 hT hL fun K23 t23 => ?_
      refine ⟨_, rfl, ite2 (fun c => absurd c (by simp)) fun _ => ?_⟩
      have s23 := t22.trans t23
      refine ⟨_, rfl, (fun i hi => by cases hi), fun wv K24 t24 lit => ?_⟩
      have lit : VLit K24 (.l [.t [.v (.str "add"), .v (.int 2000)], .t [.v (.str "put"), .v .non]]) wv := lit
      simp only [VLit, VLitAll] at lit
      obtain ⟨wa, _, rfl, hwa, _, _, rfl, ⟨b1, _, rfl, g1, _, _, rfl, rfl, _, _, rfl, rfl, rfl⟩, _, _, rfl, ⟨b2, _, rfl, g2, _, _, rfl, rfl, _, _, rfl, rfl, rfl⟩, rfl⟩ := lit
      have s24 := s23.trans t24
      have F24 := stoAt_same s24 F21
      have tadd : ("add" : Str) ∈ four := by simp [four]
      have tput : ("put" : Str) ∈ four := by simp [four]
      have tdrop : ("drop" : Str) ∈ four := by simp [four]
      have sI : ∀ i : Int, 0 ≤ i → i ≤ 5000 → SmZ 50 2000 (.int i) := fun i h0 h1 => item_small ⟨h0, by omega⟩
      have sN : SmZ 50 2000 .none := sm_none.z.mono (by decide) (by decide)
      have rm : RoadSo K CF CI CT [.ref b1, .ref b2] fullS K24 (some (CT, .int 2001)) := by
        have h := road_many (K := K) (CF := CF) (CI := CI) (CT := CT) (r := [.ref b2]) g1 full_drawn (by decide) (numD_of (by decide) (by decide)) n2000 full
        rw [full_len] at h
        exact h
      have B2 := ask_edits (K := K) (C0 := C0) (CF := CF) (CI := CI) (CL := CL) (CT := CT) (k := 4) (C := CT) (bad := .int 2001) (ps := [⟨"add", .int 2000, .int 2000, b1⟩, ⟨"put", .non, .none, b2⟩]) M lay rfl F24 full_drawn (by decide) full_small hwa (fun p hp => by
          simp only [List.mem_cons, List.not_mem_nil, or_false] at hp
          rcases hp with rfl | rfl
          · exact ⟨tadd, g1, .int _⟩
          · exact ⟨tput, g2, .non⟩) (fun p hp => by
          simp only [List.mem_cons, List.not_mem_nil, or_false] at hp
          rcases hp with rfl | rfl
          · exact sI _ (by decide) (by decide)
          · exact sN) (show 2 ≤ 10 by decide) (.int 2001) ((sI 2001 (by decide) (by decide)).mono (by decide) (by decide)) rm
      refine nil_read ?_
      refine ask_caught B2 nd5 fun T2 L2 K25 t25 hT2 hL2 => ?_
      refine c_read (c_read (nil_read ?_))
      refine ask_only B2 t25 hT2 hL2 fun K26 t26 => ?_
      refine ⟨_, rfl, ite2 (fun c => absurd c (by simp)) fun _ => ?_⟩
      have s26 := (s24.trans t25).trans t26
      clear hT hL hT2 hL2 g1 g2 hwa rm B1 B2
      -- what is no new item of the full store
      refine ⟨trivial, fun lv K27 t27 lit => ?_⟩
      have lit : Lit K27 (.list [.int 3, .none, .int (-1), .int 1000000001, .bool true, .str "1"]) lv := lit
      obtain ⟨la, zs, rfl, ea, lx⟩ := (by simpa only [Lit] using lit : ∃ (a : Addr) (xs : List V), lv = .ref a ∧ K27 a = some (.lst xs) ∧ LitAll K27 [.int 3, .none, .int (-1), .int 1000000001, .bool true, .str "1"] xs)
      have F27 := stoAt_same (s26.trans t27) F21
      have lz : zs.length ≤ 10 := by rw [lits_len lx]; show 6 ≤ 10; decide
      have each0 : ∀ x ∈ zs, Ask K dM C0 CF CI CL CT K27 2 (.ref e5) x x 2 := fun x hx => by
        obtain ⟨d, hd, dp⟩ := lits_mem (K := K) lx x hx
        have sm : ∀ d ∈ ([.int 3, .none, .int (-1), .int 1000000001, .bool true, .str "1"] : List PyData), SmZ 50 2000 d := fun d hd => fill_all (i := 0) (c := "next") (ts := ([.int 3, .none, .int (-1), .int 1000000001, .bool true, .str "1"] : List PyData).map TD.d) (sm_item (by decide)).z next_small (by decide +kernel) d hd
        refine ask_noAdd F27 full_drawn (by decide) full_small dp (sm d hd) ?_
        simp only [List.mem_cons, List.not_mem_nil, or_false] at hd
        rcases hd with rfl | rfl | rfl | rfl | rfl | rfl
        · exact .inr (okItem_of full_drawn.items.2 (full_mem.mpr (by decide)))
        · exact .inl rfl
        · exact .inl (by decide)
        · exact .inl (by decide)
        · exact .inl rfl
        · exact .inl rfl
      refine ⟨la, rfl, ⟨_, SqL.of ea⟩, fun Dl nDl => lc_none (walk_list (K := K) (a := la) (xs := zs)) (Nat.lt_of_le_of_lt (show zs.length ≤ 1000 by omega) (by decide)) nDl (fun H' s' => SqL.of (s' _ _ ea)) (fun j H' v H'' y => by rw [y.1]; exact fun _ _ h => h) (fun j v H3 H4 hj s3 y R N0 N => ?_) fun K28 t28 e28 => ?_⟩
      · obtain ⟨rfl, hv⟩ := y
        have A := (each0 v (List.mem_of_getElem? hv)).same s3
        refine ⟨rfl, _, rfl, _, rfl, nil_read ?_⟩
        refine ask_caught A nd5 fun T L H5 s5 hT hL => ?_
        refine ⟨_, rfl, nil_read ?_⟩
        refine ask_only A s5 hT hL fun H6 s6 => ?_
        exact ⟨_, rfl, ite2 (fun c => absurd c (by simp)) fun _ => N _ (s5.trans s6)⟩
      refine ⟨Nat.zero_le _, fun E1 nE1 => ⟨.list [], .list [], .lst (SqL.of (same_new nE1 _ _ e28)) .nil, .lst (SqL.of upd_same) .nil, rfl, rfl, false, rfl, ?_⟩⟩
      have s29 := ((s26.trans t27).trans t28).trans (same_new nE1 (o := .lst []))
      clear each0 lx ea
      generalize upd K28 E1 (.lst []) = K29 at s29 ⊢
      -- the value told is the one handed in
      have F29 := stoAt_same s29 F21
      have A29 := stoAt_same (s21.trans s29) A2
      generalize K29 = M0 at F29 A29 ⊢
      refine ⟨by show 1 ≤ sizeLine; decide, fun th nth => ?_⟩
      have t1 := same_new nth (o := .lst [.non])
      have f1 : upd M0 th (.lst [.non]) th = some (.lst [.non]) := upd_same
      generalize upd M0 th (.lst [.non]) = M1 at t1 f1 ⊢
      have dpT : Dp K M1 (.ref th) (.list [.none]) := .lst (SqL.of f1) (.cons .non .nil)
      have smT : SmZ 50 2000 (.list [.none]) := ((sm_none.z.cons (smzl_nil (k := 0)) (Nat.le_refl _)).list).mono (by decide) (by decide)
      have B3 : Ask K dM C0 CF CI CL CT M1 0 (.ref t) (.ref th) (.ref th) 1 := ask_noFact (.inl rfl) (stoAt_same t1 A29) D (by decide) sS dpT smT (fun ds e => by cases e) rfl
      refine ⟨_, rfl, _, rfl, nil_read ?_⟩
      refine ask_caught B3 nd5 fun T L M2 t2 hT hL => ?_
      have f2 := t2 _ _ f1
      have neT : T ≠ th := fun e => by
        rw [e, f2] at hT
        cases hT
      refine ⟨_, rfl, .inl ⟨rfl, _, SqL.of f2⟩, th, [.non], _, rfl, rfl, f2, by decide, ?_⟩
      have s3 : Same M0 (upd M2 th (.lst [.non, .int 7])) := same_upd (t1.trans t2) nth
      have f3 : upd M2 th (.lst [.non, .int 7]) th = some (.lst [.non, .int 7]) := upd_same
      have hT3 : upd M2 th (.lst [.non, .int 7]) T = some (.tup [.ref L, .ref th]) := (upd_ne neT).trans hT
      refine ⟨_, rfl, T, _, 1, .ref th, rfl, rfl, .inl (.inl hT3), atI_nat (j := 1) rfl, by show 2 ≤ sizeLine; decide, fun r1 nr1 => ?_⟩
      have t4 : Same (upd M2 th (.lst [.non, .int 7])) (upd (upd M2 th (.lst [.non, .int 7])) r1 (.lst [.non, .int 7])) := same_new nr1
      have f4 : upd (upd M2 th (.lst [.non, .int 7])) r1 (.lst [.non, .int 7]) r1 = some (.lst [.non, .int 7]) := upd_same
      rw [show ([V.non] ++ [V.int 7]) = [.non, .int 7] from rfl]
      generalize upd (upd M2 th (.lst [.non, .int 7])) r1 (.lst [.non, .int 7]) = M4 at t4 f4 ⊢
      refine ⟨.list [.none, .int 7], .list [.none, .int 7], .lst (SqL.of (t4 _ _ f3)) (.cons .non (.cons (.int 7) .nil)), .lst (SqL.of f4) (.cons .non (.cons (.int 7) .nil)), by decide +kernel, by decide +kernel, _, rfl, iteT' (by decide +kernel) ?_⟩
      have s4 := s3.trans t4
      have A4 := stoAt_same s4 A29
      have sF : SmZ 60 2000 (.int free) := (item_small ⟨h0, h1⟩).mono (by decide) (Nat.le_refl _)
      refine ⟨_, rfl, _, rfl, nil_read ?_⟩
      refine caught_none (store_dp A4) (.int free) (smz_pair sS sF (by decide)) (ends_add A4 D (by decide) (numD_of h0 h1) nf (by omega)) fun T5 L5 M5 t5 hT5 hL5 => ?_
      refine ⟨by show 1 ≤ sizeLine; decide, fun r2 nr2 => ?_⟩
      refine ⟨r2, 5, _, rfl, rfl, upd_same, by decide, by decide, (show 1 * 5 ≤ sizeLine by decide), fun r3 nr3 => ?_⟩
      have t6 : Same M5 (upd (upd M5 r2 (.lst [.bl false])) r3 (.lst [.bl false, .bl false, .bl false, .bl false, .bl false])) := (same_new nr2).trans (same_new nr3)
      have f6 : upd (upd M5 r2 (.lst [.bl false])) r3 (.lst [.bl false, .bl false, .bl false, .bl false, .bl false]) r3 = some (.lst [.bl false, .bl false, .bl false, .bl false, .bl false]) := upd_same
      have ee : (List.replicate (5 : Int).toNat [V.bl false]).flatten = [.bl false, .bl false, .bl false, .bl false, .bl false] := rfl
      rw [ee]
      generalize upd (upd M5 r2 (.lst [.bl false])) r3 (.lst [.bl false, .bl false, .bl false, .bl false, .bl false]) = M6 at t6 f6 ⊢
      refine ⟨by show 2 ≤ sizeLine; decide, fun r4 nr4 => ?_⟩
      have t7 := same_new nr4 (o := .tup [.ref r3, .non])
      have f7 : upd M6 r4 (.tup [.ref r3, .non]) r4 = some (.tup [.ref r3, .non]) := upd_same
      generalize upd M6 r4 (.tup [.ref r3, .non]) = M7 at t7 f7 ⊢
      refine ⟨noErrD, noErrD, noErr_dp ((t6.trans t7) _ _ hT5) ((t6.trans t7) _ _ hL5), noErr_dp f7 (t7 _ _ f6), by decide +kernel, by decide +kernel, _, rfl, iteT' (by decide +kernel) ?_⟩
      have s7 := ((s4.trans t5).trans t6).trans t7
      -- an item less, another more
      refine ⟨_, rfl, (fun i hi => by cases hi), fun wv M8 t8 lit => ?_⟩
      have lit : VLit M8 (.l [.t [.v (.str "drop"), .v (.int 5)], .t [.v (.str "add"), .v (.int 2000)]]) wv := lit
      simp only [VLit, VLitAll] at lit
      obtain ⟨wa, _, rfl, hwa, _, _, rfl, ⟨b1, _, rfl, g1, _, _, rfl, rfl, _, _, rfl, rfl, rfl⟩, _, _, rfl, ⟨b2, _, rfl, g2, _, _, rfl, rfl, _, _, rfl, rfl, rfl⟩, rfl⟩ := lit
      have F8 := stoAt_same (s7.trans t8) F29
      have hp : ∀ p ∈ ([⟨"drop", .int 5, .int 5, b1⟩, ⟨"add", .int 2000, .int 2000, b2⟩] : List WEd), p.At K M8 := fun p hp => by
        simp only [List.mem_cons, List.not_mem_nil, or_false] at hp
        rcases hp with rfl | rfl
        · exact ⟨tdrop, g1, .int _⟩
        · exact ⟨tadd, g2, .int _⟩
      have hs : ∀ p ∈ ([⟨"drop", .int 5, .int 5, b1⟩, ⟨"add", .int 2000, .int 2000, b2⟩] : List WEd), SmZ 50 2000 p.d := fun p hp => by
        simp only [List.mem_cons, List.not_mem_nil, or_false] at hp
        rcases hp with rfl | rfl
        · exact sI _ (by decide) (by decide)
        · exact sI _ (by decide) (by decide)
      have hd : Dp K M8 (.ref wa) (.list [.tuple [.str "drop", .int 5], .tuple [.str "add", .int 2000]]) := .lst (SqL.of hwa) (wed_dp hp)
      have smE : SmZ 60 30000 (.list [.tuple [.str "drop", .int 5], .tuple [.str "add", .int 2000]]) := (wed_small hp hs).list.mono (by decide) (show 2 * 3000 ≤ 30000 by decide)
      refine nil_read ?_
      refine caught_none (store_dp F8) hd (smz_pair full_small smE (by decide)) (ends_road F8 full_drawn (by decide) hd (knows M lay (by simp [knownsB, knownB, w_drop, w_add])) (editsD_of fun e he => by
        simp only [List.mem_cons, List.not_mem_nil, or_false] at he
        rcases he with rfl | rfl
        · exact editD_of tdrop _
        · exact editD_of tadd _) hwa (road_full g1 g2)) fun T9 L9 M9 t9 hT9 hL9 => ?_
      refine ⟨by show 1 ≤ sizeLine; decide, fun r5 nr5 => ?_⟩
      refine ⟨r5, 5, _, rfl, rfl, upd_same, by decide, by decide, (show 1 * 5 ≤ sizeLine by decide), fun r6 nr6 => ?_⟩
      have t10 : Same M9 (upd (upd M9 r5 (.lst [.bl false])) r6 (.lst [.bl false, .bl false, .bl false, .bl false, .bl false])) := (same_new nr5).trans (same_new nr6)
      have f10 : upd (upd M9 r5 (.lst [.bl false])) r6 (.lst [.bl false, .bl false, .bl false, .bl false, .bl false]) r6 = some (.lst [.bl false, .bl false, .bl false, .bl false, .bl false]) := upd_same
      rw [ee]
      generalize upd (upd M9 r5 (.lst [.bl false])) r6 (.lst [.bl false, .bl false, .bl false, .bl false, .bl false]) = M10 at t10 f10 ⊢
      refine ⟨by show 2 ≤ sizeLine; decide, fun r7 nr7 => ?_⟩
      have t11 := same_new nr7 (o := .tup [.ref r6, .non])
      have f11 : upd M10 r7 (.tup [.ref r6, .non]) r7 = some (.tup [.ref r6, .non]) := upd_same
      generalize upd M10 r7 (.tup [.ref r6, .non]) = M11 at t11 f11 ⊢
      refine ⟨noErrD, noErrD, noErr_dp ((t10.trans t11) _ _ hT9) ((t10.trans t11) _ _ hL9), noErr_dp f11 (t11 _ _ f10), by decide +kernel, by decide +kernel, ?_⟩
      rw [show PyData.eqv noErrD noErrD = true by decide +kernel]
      exact q _
  · obtain ⟨x3, e3, x2, e2, p, xs, i, z, r1, r2, hT, ea, p', ys, r3, hs, f1, f2, c, ec, qq⟩ := hc
    refine ⟨x3, e3, x2, e2, p, xs, i, z, r1, r2, hT, ea, p', ys, r3, hs, f1, f2, c, ec, ?_⟩
    cases c with
    | true => exact h _ _ qq
    | false =>
      obtain ⟨y3, g3, i1, j1, u1, u2, c2, ec2, qq⟩ := qq
      exact ⟨y3, g3, i1, j1, u1, u2, c2, ec2, h _ _ qq⟩
end
end DQ

set_option Elab.async false
set_option linter.all false
set_option maxRecDepth 100000
set_option maxHeartbeats 1000000
namespace DQ
open PySem PySem.Spec PyProof.Rows L2
/-! ### what the end asks of the five classes, as one look each -/
def kitA (K : PySem.W.Frag) (l : List Addr) : Bool := l.all fun x => l.all fun y => PySem.W.kitOne K (.ref x) (.ref y) == some (decide (x = y))
def exmA (K : PySem.W.Frag) (l : List Addr) (S : Addr) : Bool := l.all fun x => PySem.W.exmOne K (.ref x) (.ref S) == some true
def knA (K : PySem.W.Frag) (l : List Addr) : Bool := l.all fun x => PySem.W.kitOne K (.type "NoneType") (.ref x) == some false
def apartA : List Addr → Bool
  | [] => true
  | x :: r => (r.all fun y => !decide (x = y)) && apartA r
theorem kitA_of {K : PySem.W.Frag} {l : List Addr} (h : kitA K l = true) : ∀ C ∈ l, ∀ D ∈ l, PySem.W.kitOne K (.ref C) (.ref D) = some (decide (C = D)) := fun C hC D hD => beq_iff_eq.mp (List.all_eq_true.mp (List.all_eq_true.mp h C hC) D hD)
theorem exmA_of {K : PySem.W.Frag} {l : List Addr} {S : Addr} (h : exmA K l S = true) : ∀ C ∈ l, PySem.W.exmOne K (.ref C) (.ref S) = some true := fun C hC => beq_iff_eq.mp (List.all_eq_true.mp h C hC)
theorem knA_of {K : PySem.W.Frag} {l : List Addr} (h : knA K l = true) : ∀ C ∈ l, PySem.W.kitOne K (.type "NoneType") (.ref C) = some false := fun C hC => beq_iff_eq.mp (List.all_eq_true.mp h C hC)
theorem apartA_of : ∀ {l : List Addr}, apartA l = true → l.Nodup
  | [], _ => List.nodup_nil
  | x :: r, h => by
    have h : ((r.all fun y => !decide (x = y)) && apartA r) = true := h
    rw [Bool.and_eq_true] at h
    refine List.nodup_cons.mpr ⟨fun m => ?_, apartA_of h.2⟩
    have z := List.all_eq_true.mp h.1 x m
    simp at z
theorem makers_mk {K : PySem.W.Frag} {w : World} {d fp ft fa fd : Addr} {o : Obj} {es : Array DictEntry} {n : Nat} (l : K.lookup d = some o) (e : o = ⟨.type "dict", none, .dict es n, #[]⟩) (k : PySem.W.KeysLit w.params es.toList) (low : (d == sysModules) = false)
    (h1 : PySem.W.nsIn K d "put" = some (some (.ref fp))) (h2 : PySem.W.nsIn K d "take" = some (some (.ref ft))) (h3 : PySem.W.nsIn K d "add" = some (some (.ref fa))) (h4 : PySem.W.nsIn K d "drop" = some (some (.ref fd))) : Makers K w d fp ft fa fd :=
  ⟨⟨es, n, by rw [l, e], k, low⟩, h1, h2, h3, h4⟩
theorem it5 : InitText (sInit 5) := ⟨_, _, _, _, _, _, _, rfl, rfl, rfl⟩
theorem it6 : InitText (sInit 6) := ⟨_, _, _, _, _, _, _, rfl, rfl, rfl⟩
end DQ

set_option Elab.async false
set_option linter.all false
set_option maxRecDepth 100000
set_option maxHeartbeats 2000000
namespace DQ
open PySem PySem.Spec PyProof.Rows L2
/-! ### the end of a law whose def was shown for calls around which no guard is -/
section
variable {P : Program} {w : World} {K : PySem.W.Frag} {mg nb : Str → Option Value} {j : Nat} {law scr : Addr} {code : FuncData} {par : Str} {asks : Sp} {t : Shared} {its : List Value} {nums : List Int}
/-- the script may be the only thing that is tracked -/
structure Bare (K : PySem.W.Frag) (scr : Addr) (H : Hp) : Prop where
  only : Only H
  self : ∀ b, H b ≠ none → b = scr
  out : H scr ≠ none → K.lookup scr = none
theorem bare_none {H : Hp} (X : Bare K scr H) {b : Addr} {o : Obj} {es : Array DictEntry} {n : Nat} (hs : t.heap.get? scr = some { cls := .type "list", data := .seq its.toArray }) (e : t.heap.get? b = some o) (d : o.data = .dict es n) : H b = none := Classical.byContradiction fun z => by
  have q := X.self b z
  rw [q, hs] at e
  cases e
  exact nomatch d
theorem ends_with (H : Hp) (X : Bare K scr H) (inK : K.In t.heap) (names : t.heap.Ns mainGlobals mg) (bns : t.heap.Ns builtinsNs nb) (boot : ∀ y : Str, y ≠ "__name__" → nb y = bootBuiltins y) (free : t.heap.NoLimit) (noGen : t.gens = #[])
    (hs : t.heap.get? scr = some { cls := .type "list", data := .seq its.toArray }) (room : Room j callerA) (F : ∀ base : Heap, K.In base → base.Ns mainGlobals mg → FnG P w K mg base CX0 j law code [par] asks) (bind : ∀ (s : Shared) (u : Value), BindsTo s code ⟨[u], []⟩ [(par, u)])
    (ok : HOk P w H t.heap) (ask : asks [.ref scr] H (fun v _ => v = .bl true) fun _ _ _ => False) :
    codeAny (model P w) callerA (.call (.ref law) ⟨[.ref scr], []⟩) (fun r u => r = .ok (.ret (.bool true)) ∧ OldK t.heap u.heap ∧ u.os = t.os ∧ AllBare u.gens) t := by
  have kept : ∀ {b : Addr} {m : Str → Option Value}, t.heap.Ns b m → (hidT t.heap H).Ns b m := fun {b m} z => by
    obtain ⟨o, es, n, e, d, r⟩ := z
    exact ⟨o, es, n, hidT_get e (bare_none X hs e d), d, r⟩
  have inK' : K.In (hidT t.heap H) := fun b o e => by
    refine hidT_get (inK b o e) (Classical.byContradiction fun z => ?_)
    have q := X.self b z
    rw [q] at e z
    rw [X.out z] at e
    exact nomatch e
  have mod : Mod K mg (hidT t.heap H) := by
    obtain ⟨mc, l1, l2⟩ := free
    exact ⟨inK', kept names, ⟨nb, kept bns, boot⟩, ⟨mc, kept l1, l2⟩⟩
  have start : Env0 P w K mg (hidT t.heap H) callerA [] t H := ⟨rfl, mod, fun b o => of_hidT, Nat.le_of_eq (hidT_size _ _), trivial, fun b z => absurd (show b ∈ ([] : List Addr) from z) List.not_mem_nil, ok, .of_eq noGen⟩
  have run := (F _ inK' (kept names)).run callerA [] t H ⟨[.ref scr], []⟩ [.ref scr] [.ref scr] _ _ room rfl start (bind t (.ref scr)) (.cons rfl .nil) ask
  refine codeAny_mono run fun r u z => ?_
  match r, z with
  | .error _, z => exact False.elim z
  | .ok .next, z => exact False.elim z
  | .ok .brk, z => exact False.elim z
  | .ok .cont, z => exact False.elim z
  | .ok (.ret y), z =>
    obtain ⟨v, H', os, bare, un, ok', rv, q⟩ := z
    have q : v = .bl true := q
    rw [q] at rv
    obtain rfl : y = Value.bool true := rv
    refine ⟨rfl, OldK.of_keep fun b o e => ?_, os, bare⟩
    cases z : H b with
    | none => exact un.keep b o e z (fun m => absurd (show b ∈ ([] : List Addr) from m) List.not_mem_nil) List.not_mem_nil
    | some f =>
      rcases X.only b with n | ⟨ob, xs, n⟩
      · rw [n] at z
        cases z
      · obtain ⟨e1, _⟩ := ok b _ n
        obtain ⟨e2, _⟩ := ok' b _ (un.frzs b ob _ n)
        rw [e] at e1
        cases e1
        exact e2
theorem ends_of (inK : K.In t.heap) (names : t.heap.Ns mainGlobals mg) (bns : t.heap.Ns builtinsNs nb) (boot : ∀ y : Str, y ≠ "__name__" → nb y = bootBuiltins y) (free : t.heap.NoLimit) (noGen : t.gens = #[])
    (hs : t.heap.get? scr = some { cls := .type "list", data := .seq its.toArray }) (hi : IntsAre its nums) (len : nums.length ≤ sizeLine) (room : Room j callerA) (F : ∀ base : Heap, K.In base → base.Ns mainGlobals mg → FnG P w K mg base CX0 j law code [par] asks)
    (bind : ∀ (s : Shared) (u : Value), BindsTo s code ⟨[u], []⟩ [(par, u)]) (ask : ∀ H : Hp, Only H → SqL K H scr (nums.map V.int) → asks [.ref scr] H (fun v _ => v = .bl true) fun _ _ _ => False) :
    codeAny (model P w) callerA (.call (.ref law) ⟨[.ref scr], []⟩) (fun r u => r = .ok (.ret (.bool true)) ∧ OldK t.heap u.heap ∧ u.os = t.os ∧ AllBare u.gens) t := by
  have rel := vals_ints hi
  have sz := hi.length
  by_cases own : K.lookup scr = none
  · let H : Hp := fun b => if b = scr then some (.frz { cls := .type "list", data := .seq its.toArray } (.lst (nums.map V.int))) else none
    have at0 : H scr = some (.frz { cls := .type "list", data := .seq its.toArray } (.lst (nums.map V.int))) := if_pos rfl
    have off : ∀ b, b ≠ scr → H b = none := fun b n => if_neg n
    have X : Bare K scr H := ⟨fun b => by
      by_cases e : b = scr
      · exact .inr ⟨_, _, by rw [e]; exact at0⟩
      · exact .inl (off b e), fun b n => Classical.byContradiction fun e => n (off b e), fun _ => own⟩
    refine ends_with H X inK names bns boot free noGen hs room F bind (fun b u z => ?_) (ask H X.only (.inl (.inr ⟨_, at0⟩)))
    by_cases e : b = scr
    · rw [e, at0] at z
      cases z
      rw [e]
      exact ⟨hs, by rw [List.length_map]; exact len, its, _, rel, hs⟩
    · rw [off b e] at z
      cases z
  · obtain ⟨o, ho⟩ : ∃ o, K.lookup scr = some o := by
      cases e : K.lookup scr with
      | none => exact absurd e own
      | some o => exact ⟨o, rfl⟩
    have e := inK scr o ho
    rw [hs] at e
    cases e
    have X : Bare K scr (fun _ => none) := ⟨fun _ => .inl rfl, fun b n => absurd rfl n, fun n => absurd rfl n⟩
    exact ends_with _ X inK names bns boot free noGen hs room F bind (fun b u z => nomatch z) (ask _ X.only (.inr ⟨_, its.toArray, _, ho, rfl, rfl, rfl, by rw [List.size_toArray, sz]; exact len, by simpa using rel⟩))
end
theorem walkG {l : PySem.W.OpenLaw} {n j : Nat} {q : Program} {loose : List Str} {XP : (Str → Option Value) → Heap → Prop} {YP : World → Heap → Prop} {d : DefRec} {K : Params → PySem.W.Frag} {asks : PySem.W.Frag → Sp} {par : Str}
    (hn : l.most = some n) (small : n ≤ sizeLine) (hdf : d.params.defaults = []) (room : Room j callerA) (inK : ∀ (w : World) (h : Heap), YP w h → (K w.params).In h)
    (F : ∀ (w : World) (mg : Str → Option Value) (law : Addr) (h : Heap), (K w.params).In h → h.Ns mainGlobals mg → mg d.name = some (.ref law) →
      ∃ code : FuncData, (∀ (s : Shared) (u : Value), BindsTo s code ⟨[u], []⟩ [(par, u)]) ∧ ∀ base : Heap, (K w.params).In base → base.Ns mainGlobals mg → FnG l.prog w (K w.params) mg base CX0 j law code [par] (asks (K w.params)))
    (ask : ∀ (K : PySem.W.Frag) (H : Hp) (scr : Addr) (nums : List Int), nums.length ≤ n → Only H → SqL K H scr (nums.map V.int) → asks K [.ref scr] H (fun v _ => v = .bl true) fun _ _ _ => False) :
    PySem.W.WalkO q loose XP YP l.row.toRowW d [] (fun f vs => PySem.call f vs) := by
  refine Att.attach_call hn hdf fun w s₀ t mg nb law o pm cd doc scr its nums G Y ho hd hcd hmg hs hints len noGen => ?_
  obtain ⟨code, bind, hF⟩ := F w mg law _ (inK w _ Y) G.T.g hmg
  exact ends_of (inK w _ Y) G.T.g G.T.b G.T.builtins G.T.nolimit noGen hs hints (Nat.le_trans len small) room hF bind fun H => ask _ H scr nums len
end DQ

set_option Elab.async false
set_option linter.all false
set_option maxRecDepth 100000
set_option maxHeartbeats 2000000
namespace DQ
open PySem PySem.Spec PyProof.Rows L2
/-! ### what the top has left: defs, constants -/
/-- a def of the top, by its facts -/
structure DefAt (K : PySem.W.Frag) (mg : Str → Option Value) (x : Str) (st : Stmt) (f : Addr) (fd : FuncData) : Prop where
  g : mg x = some (.ref f)
  F : Fun K x x st f fd
theorem def_mk {K : PySem.W.Frag} {h : Heap} {mg : Str → Option Value} {x : Str} {st : Stmt} {f : Addr} {oc kV doc pm cdv ct : Value} {od an : Option Addr} {osl : Array (Option Value)} (X : K.In h) (G : h.Ns mainGlobals mg) (a : PySem.W.nsIn K mainGlobals x = some (some (.ref f)))
    (l : K.lookup f = some ⟨oc, od, .func (PySem.W.fnOf x x (defArgs st) (defBody st) (defScope st) .none kV doc pm an cdv ct), osl⟩) (c : PySem.W.codeIn K cdv x = true) (k : PySem.W.keepIn K (.ref f) = true) : ∃ fd, DefAt K mg x st f fd :=
  ⟨_, PySem.W.mg_of X G a, fun_mk (st := st) l c k⟩
section
variable {K : PySem.W.Frag} {h : Heap} {mg : Str → Option Value}
theorem str_mk {x z v : Str} {t : Tok} (X : K.In h) (G : h.Ns mainGlobals mg) (a : PySem.W.nsIn K mainGlobals x = some (some (.str v t))) (e : v = z) : ∃ t, mg x = some (.str z t) := ⟨t, by rw [← e]; exact PySem.W.mg_of X G a⟩
theorem int_mk {x : Str} {z v : Int} {t : Tok} (X : K.In h) (G : h.Ns mainGlobals mg) (a : PySem.W.nsIn K mainGlobals x = some (some (.int v t))) (e : v = z) : ∃ t, mg x = some (.int z t) := ⟨t, by rw [← e]; exact PySem.W.mg_of X G a⟩
theorem rel_abs {u : Value} {x : V} (h : absV u = some x) : RelV x u := by
  cases u with
  | none => cases h; rfl
  | bool b => cases h; rfl
  | int i t => cases h; exact ⟨t, rfl⟩
  | str s t => cases h; exact ⟨t, rfl⟩
  | ref a => cases h; rfl
  | _ => first | cases h; rfl | (cases h; exact ⟨_, rfl⟩) | exact nomatch h
theorem vals_abs : ∀ {us : List Value} {xs : List V}, us.map absV = xs.map some → Vals xs us
  | [], [], _ => .nil
  | [], _ :: _, h => nomatch h
  | _ :: _, [], h => nomatch h
  | u :: us, x :: xs, h => by
    rw [List.map_cons, List.map_cons] at h
    injection h with h1 h2
    exact .cons (rel_abs h1) (vals_abs h2)
theorem tup_mk {x : Str} {r : Addr} {o : Obj} {its : Array Value} {n : Nat} {xs : List V} (X : K.In h) (G : h.Ns mainGlobals mg) (a : PySem.W.nsIn K mainGlobals x = some (some (.ref r))) (l : K.lookup r = some o) (c : o.cls = .type "tuple") (d : o.data = .seq its n) (z : its.size ≤ 1000) (e : its.toList.map absV = xs.map some) :
    ∃ r, mg x = some (.ref r) ∧ ∀ H, SqT K H r xs := ⟨r, PySem.W.mg_of X G a, fun H => .inr ⟨o, its, n, l, c, d, Nat.le_trans z (by decide), vals_abs e⟩⟩
end
end DQ

set_option Elab.async false
set_option linter.all false
set_option maxRecDepth 100000
set_option maxHeartbeats 2000000
namespace DQ
open PySem PySem.Spec PyProof.Rows L2
/-! ### what the top has left: classes of errors -/
section
variable {K : PySem.W.Frag} {h : Heap} {mg : Str → Option Value}
theorem cls_mk {C N : Addr} {nm q : Str} {bs bm : List Value} {sn : List Str} {sub : List Value} {ab : Bool} {col : Option Bool} {dd : Option Addr} {m0 m1 m2 m3 m5 : Option Value}
    (xL : K.lookup C = some (excClassObj nm q C N bs bm true sn sub ab col dd m0 m1 m2 m3 m5 "ValueError.__new__")) (rv : PySem.HandSPX.refsVE bm = true) (sa : PySem.W.findIn K (.ref C) "__setattr__" = some (some (.builtin "object.__setattr__")))
    (eC : PySem.W.subIn K (.ref C) (.type "BaseException") = some true) (tC : PySem.W.typeIn K (.ref C) = some (.type "type")) (kC : PySem.W.keepIn K (.ref C) = true)
    (ga : PySem.W.findIn K (.ref C) "__getattribute__" = some (some (.builtin "BaseException.__getattribute__"))) (gg : PySem.W.findIn K (.ref C) "__getattr__" = some none)
    (ca : PySem.W.findIn K (.ref C) "__class__" = some (some (.builtin "object.__class__"))) (cg : PySem.W.specialIn K (.builtin "object.__class__") "__get__" = some (some (.builtin "getset_descriptor.__get__"))) (ct : PySem.W.takesIn K (.builtin "object.__class__") = some true)
    (mo : PySem.W.mroIn K C (.type "object") = some true) : OexC K C ∧ ErrC K C :=
  ⟨⟨⟨nm, q, N, bs, bm, sn, sub, ab, col, dd, m0, m1, m2, m3, m5, xL, rv⟩, sa, eC, tC, kC⟩, ⟨by unfold PySem.W.clsIn; rw [xL]; rfl, ga, gg, eC, ca, cg, ct, mo⟩⟩
theorem err_mk {name qual : Str} {st : Stmt} {C fI T : Addr} {oT : Obj} {n : Nat} {oc kV doc pm cdv ct' : Value} {od an : Option Addr} {osl : Array (Option Value)} (X : K.In h) (G : h.Ns mainGlobals mg) (a : PySem.W.nsIn K mainGlobals name = some (some (.ref C))) (c : OexC K C ∧ ErrC K C)
    (hd : PySem.W.hasDictIn K C = true) (nv : PySem.W.findIn K (.ref C) "value" = some none) (eq : PySem.W.findIn K (.ref C) "__eq__" = some (some (.builtin "object.__eq__")))
    (ic : PySem.W.findIn K (.ref C) "__init__" = some (some (.ref fI))) (ti : PySem.W.typeIn K (.ref fI) = some (.type "function"))
    (lf : K.lookup fI = some ⟨oc, od, .func (PySem.W.fnOf "__init__" qual (defArgs st) (defBody st) (defScope st) (.ref T) kV doc pm an cdv ct'), osl⟩) (cf : PySem.W.codeIn K cdv qual = true) (kf : PySem.W.keepIn K (.ref fI) = true)
    (lT : K.lookup T = some oT) (dT : oT.data = .seq #[.none] n) : ErrAt K mg name qual st C :=
  ⟨PySem.W.mg_of X G a, c.1, ⟨c.2.ga, c.2.gg, c.2.sub, hd⟩, nv, c.2, eq, fI, _, ic, ti, ⟨⟨oc, od, _, kV, doc, pm, an, cdv, ct', osl, rfl, lf, cf, .inr ⟨by simp, T, oT, [.none], n, rfl, lT, dT, .cons rfl .nil⟩, .inl rfl⟩, kf⟩⟩
end
end DQ

set_option Elab.async false
set_option linter.all false
set_option maxRecDepth 100000
set_option maxHeartbeats 4000000
namespace DQ
open PySem PySem.Spec PyProof.Rows L2
theorem all_of {P : Program} {w : World} {K : PySem.W.Frag} {mg : Str → Option Value} {fa C0 C1 C2 C3 C4 f0 f1 f2 f3 f4 f5 f6 f7 f8 f9 f10 f11 f12 f13 f14 f15 f16 f17 f18 f19 f20 f21 f22 f23 f24 f25 f26 f27 f28 f29 f30 f31 f32 f33 f34 f35 f36 f37 f38 f39 f40 f41 f42 f43 S dM : Addr} (hfa : mg "law" = some (.ref fa))
    (E0 : ErrAt K mg "InvalidStore" "InvalidStore.__init__" (sInit 2) C0)
    (E1 : ErrAt K mg "InvalidItem" "InvalidItem.__init__" (sInit 3) C1)
    (E2 : ErrAt K mg "InvalidFact" "InvalidFact.__init__" (sInit 4) C2)
    (E3 : ErrAt K mg "InvalidList" "InvalidList.__init__" (sInit 5) C3)
    (E4 : ErrAt K mg "TooMany" "TooMany.__init__" (sInit 6) C4)
    (x0 : mg "StoreError" = some (.ref S))
    (x1 : exmA K [C0, C2, C1, C3, C4] S = true)
    (x2 : kitA K [C0, C2, C1, C3, C4] = true)
    (x3 : knA K [C0, C2, C1, C3, C4] = true)
    (x4 : apartA [C0, C2, C1, C3, C4] = true)
    (x5 : mg "MAKERS" = some (.ref dM))
    (x6 : Makers K w dM f17 f18 f19 f20)
    (x7 : PySem.W.nsIn K dM "lay" = some none)
    (c0 : ∃ t, mg "LETTERS" = some (.str letters t))
    (c1 : ∃ t, mg "WORD_SIGNS" = some (.str wordSigns t))
    (c2 : ∃ t, mg "MOST_SIGNS" = some (.int 30 t))
    (c3 : ∃ r, mg "RESERVED" = some (.ref r) ∧ ∀ H, SqT K H r (reserved.map V.str))
    (c4 : ∃ t, mg "MOST_MARKS" = some (.int 4 t))
    (c5 : ∃ t, mg "MOST_COLUMNS" = some (.int 2 t))
    (c6 : ∃ t, mg "MOST_ITEMS" = some (.int 2000 t))
    (c7 : ∃ t, mg "MOST_NUMBER" = some (.int 1000000000 t))
    (D0 : ∃ fd, DefAt K mg "is_word" sIsWord f0 fd)
    (D1 : ∃ fd, DefAt K mg "is_spelled" sSpelled f1 fd)
    (D2 : ∃ fd, DefAt K mg "is_whole" sWhole f2 fd)
    (D3 : ∃ fd, DefAt K mg "is_between" sBetween f3 fd)
    (D4 : ∃ fd, DefAt K mg "is_number" sNumber f4 fd)
    (D5 : ∃ fd, DefAt K mg "are_words" sWords f5 fd)
    (D6 : ∃ fd, DefAt K mg "are_marks" sMarks f6 fd)
    (D7 : ∃ fd, DefAt K mg "are_columns" sColumns f7 fd)
    (D8 : ∃ fd, DefAt K mg "are_numbers" sNumbers f8 fd)
    (D9 : ∃ fd, DefAt K mg "is_ascending" sAscending f9 fd)
    (D10 : ∃ fd, DefAt K mg "is_fact" sIsFact f10 fd)
    (D11 : ∃ fd, DefAt K mg "first_clash" sClash f11 fd)
    (D12 : ∃ fd, DefAt K mg "are_facts" sFacts f12 fd)
    (D13 : ∃ fd, DefAt K mg "is_store" sStoreP f13 fd)
    (D14 : ∃ fd, DefAt K mg "check_store" sCheck f14 fd)
    (D15 : ∃ fd, DefAt K mg "is_item" sIsItem f15 fd)
    (D16 : ∃ fd, DefAt K mg "remade" sRemade f16 fd)
    (D17 : ∃ fd, DefAt K mg "put_fact" sPut f17 fd)
    (D18 : ∃ fd, DefAt K mg "take_fact" sTake f18 fd)
    (D19 : ∃ fd, DefAt K mg "add_item" sAdd f19 fd)
    (D20 : ∃ fd, DefAt K mg "drop_item" sDrop f20 fd)
    (D21 : ∃ fd, DefAt K mg "with_fact" sWF f21 fd)
    (D22 : ∃ fd, DefAt K mg "without_fact" sOF f22 fd)
    (D23 : ∃ fd, DefAt K mg "with_item" sWI f23 fd)
    (D24 : ∃ fd, DefAt K mg "without_item" sOI f24 fd)
    (D25 : ∃ fd, DefAt K mg "is_edit" sIsEdit f25 fd)
    (D26 : ∃ fd, DefAt K mg "made" sMade f26 fd)
    (D27 : ∃ fd, DefAt K mg "check_edits" sCheckEdits f27 fd)
    (D28 : ∃ fd, DefAt K mg "all_made" sAllMade f28 fd)
    (D29 : ∃ fd, DefAt K mg "done" sDone f29 fd)
    (D30 : ∃ fd, DefAt K mg "_law_hash" sHash f30 fd)
    (D31 : ∃ fd, DefAt K mg "_law_random" sRandom f31 fd)
    (D32 : ∃ fd, DefAt K mg "_law_cell" sCell f32 fd)
    (D33 : ∃ fd, DefAt K mg "_law_generator" sGenerator f33 fd)
    (D34 : ∃ fd, DefAt K mg "_law_drawn_order" sOrder f34 fd)
    (D35 : ∃ fd, DefAt K mg "_law_drawn_pairs" sPairs f35 fd)
    (D36 : ∃ fd, DefAt K mg "_law_drawn_items" sItems f36 fd)
    (D37 : ∃ fd, DefAt K mg "_law_drawn_store" sStore f37 fd)
    (D38 : ∃ fd, DefAt K mg "_law_asked" sAsked f38 fd)
    (D39 : ∃ fd, DefAt K mg "_law_caught" sCaught f39 fd)
    (D40 : ∃ fd, DefAt K mg "_law_only" sOnly f40 fd)
    (D41 : ∃ fd, DefAt K mg "_law_lists_refused" sLists f41 fd)
    (D42 : ∃ fd, DefAt K mg "_law_near_facts_refused" sNear f42 fd)
    (D43 : ∃ fd, DefAt K mg "law" sLaw f43 fd)
    (z0 : mg "isinstance" = none)
    (z1 : mg "str" = none)
    (z2 : mg "len" = none)
    (z3 : mg "all" = none)
    (z4 : mg "int" = none)
    (z5 : mg "bool" = none)
    (z6 : mg "list" = none)
    (z7 : mg "set" = none)
    (z8 : mg "any" = none)
    (z9 : mg "zip" = none)
    (z10 : mg "tuple" = none)
    (z11 : mg "range" = none)
    (z12 : mg "sum" = none)
    (z13 : mg "max" = none)
    (z14 : mg "sorted" = none)
    (z15 : mg "repr" = none)
    : ∃ fd : FuncData, (∀ (s : Shared) (v : Value), BindsTo s fd ⟨[v], []⟩ [("script", v)]) ∧ ∀ base : Heap, FnG P w K mg base CX0 12 fa fd ["script"] (spLaw K) := by
  obtain ⟨t0, c0⟩ := c0
  obtain ⟨t1, c1⟩ := c1
  obtain ⟨t2, c2⟩ := c2
  obtain ⟨r3, c3, cc3⟩ := c3
  obtain ⟨t4, c4⟩ := c4
  obtain ⟨t5, c5⟩ := c5
  obtain ⟨t6, c6⟩ := c6
  obtain ⟨t7, c7⟩ := c7
  obtain ⟨d0, D0⟩ := D0
  obtain ⟨d1, D1⟩ := D1
  obtain ⟨d2, D2⟩ := D2
  obtain ⟨d3, D3⟩ := D3
  obtain ⟨d4, D4⟩ := D4
  obtain ⟨d5, D5⟩ := D5
  obtain ⟨d6, D6⟩ := D6
  obtain ⟨d7, D7⟩ := D7
  obtain ⟨d8, D8⟩ := D8
  obtain ⟨d9, D9⟩ := D9
  obtain ⟨d10, D10⟩ := D10
  obtain ⟨d11, D11⟩ := D11
  obtain ⟨d12, D12⟩ := D12
  obtain ⟨d13, D13⟩ := D13
  obtain ⟨d14, D14⟩ := D14
  obtain ⟨d15, D15⟩ := D15
  obtain ⟨d16, D16⟩ := D16
  obtain ⟨d17, D17⟩ := D17
  obtain ⟨d18, D18⟩ := D18
  obtain ⟨d19, D19⟩ := D19
  obtain ⟨d20, D20⟩ := D20
  obtain ⟨d21, D21⟩ := D21
  obtain ⟨d22, D22⟩ := D22
  obtain ⟨d23, D23⟩ := D23
  obtain ⟨d24, D24⟩ := D24
  obtain ⟨d25, D25⟩ := D25
  obtain ⟨d26, D26⟩ := D26
  obtain ⟨d27, D27⟩ := D27
  obtain ⟨d28, D28⟩ := D28
  obtain ⟨d29, D29⟩ := D29
  obtain ⟨d30, D30⟩ := D30
  obtain ⟨d31, D31⟩ := D31
  obtain ⟨d32, D32⟩ := D32
  obtain ⟨d33, D33⟩ := D33
  obtain ⟨d34, D34⟩ := D34
  obtain ⟨d35, D35⟩ := D35
  obtain ⟨d36, D36⟩ := D36
  obtain ⟨d37, D37⟩ := D37
  obtain ⟨d38, D38⟩ := D38
  obtain ⟨d39, D39⟩ := D39
  obtain ⟨d40, D40⟩ := D40
  obtain ⟨d41, D41⟩ := D41
  obtain ⟨d42, D42⟩ := D42
  obtain ⟨d43, D43⟩ := D43
  have e := hfa.symm.trans D43.g
  cases e
  have b0 := D0.F.binds (ps := ["value"]) fun _ _ _ _ _ _ us hl => match us, hl with | [_], _ => rfl
  have b1 := D1.F.binds (ps := ["text"]) fun _ _ _ _ _ _ us hl => match us, hl with | [_], _ => rfl
  have b2 := D2.F.binds (ps := ["value"]) fun _ _ _ _ _ _ us hl => match us, hl with | [_], _ => rfl
  have b3 := D3.F.binds (ps := ["value", "least", "most"]) fun _ _ _ _ _ _ us hl => match us, hl with | [_, _, _], _ => rfl
  have b4 := D4.F.binds (ps := ["value"]) fun _ _ _ _ _ _ us hl => match us, hl with | [_], _ => rfl
  have b5 := D5.F.binds (ps := ["value", "most"]) fun _ _ _ _ _ _ us hl => match us, hl with | [_, _], _ => rfl
  have b6 := D6.F.binds (ps := ["value"]) fun _ _ _ _ _ _ us hl => match us, hl with | [_], _ => rfl
  have b7 := D7.F.binds (ps := ["marks", "value"]) fun _ _ _ _ _ _ us hl => match us, hl with | [_, _], _ => rfl
  have b8 := D8.F.binds (ps := ["value"]) fun _ _ _ _ _ _ us hl => match us, hl with | [_], _ => rfl
  have b9 := D9.F.binds (ps := ["rows"]) fun _ _ _ _ _ _ us hl => match us, hl with | [_], _ => rfl
  have b10 := D10.F.binds (ps := ["marks", "columns", "known", "value"]) fun _ _ _ _ _ _ us hl => match us, hl with | [_, _, _, _], _ => rfl
  have b11 := D11.F.binds (ps := ["facts"]) fun _ _ _ _ _ _ us hl => match us, hl with | [_], _ => rfl
  have b12 := D12.F.binds (ps := ["marks", "columns", "items", "value"]) fun _ _ _ _ _ _ us hl => match us, hl with | [_, _, _, _], _ => rfl
  have b13 := D13.F.binds (ps := ["value"]) fun _ _ _ _ _ _ us hl => match us, hl with | [_], _ => rfl
  have b14 := D14.F.binds (ps := ["store"]) fun _ _ _ _ _ _ us hl => match us, hl with | [_], _ => rfl
  have b15 := D15.F.binds (ps := ["store", "value"]) fun _ _ _ _ _ _ us hl => match us, hl with | [_, _], _ => rfl
  have b16 := D16.F.binds (ps := ["store", "items", "facts"]) fun _ _ _ _ _ _ us hl => match us, hl with | [_, _, _], _ => rfl
  have b17 := D17.F.binds (ps := ["store", "fact"]) fun _ _ _ _ _ _ us hl => match us, hl with | [_, _], _ => rfl
  have b18 := D18.F.binds (ps := ["store", "fact"]) fun _ _ _ _ _ _ us hl => match us, hl with | [_, _], _ => rfl
  have b19 := D19.F.binds (ps := ["store", "item"]) fun _ _ _ _ _ _ us hl => match us, hl with | [_, _], _ => rfl
  have b20 := D20.F.binds (ps := ["store", "item"]) fun _ _ _ _ _ _ us hl => match us, hl with | [_, _], _ => rfl
  have b21 := D21.F.binds (ps := ["store", "fact"]) fun _ _ _ _ _ _ us hl => match us, hl with | [_, _], _ => rfl
  have b22 := D22.F.binds (ps := ["store", "fact"]) fun _ _ _ _ _ _ us hl => match us, hl with | [_, _], _ => rfl
  have b23 := D23.F.binds (ps := ["store", "item"]) fun _ _ _ _ _ _ us hl => match us, hl with | [_, _], _ => rfl
  have b24 := D24.F.binds (ps := ["store", "item"]) fun _ _ _ _ _ _ us hl => match us, hl with | [_, _], _ => rfl
  have b25 := D25.F.binds (ps := ["value"]) fun _ _ _ _ _ _ us hl => match us, hl with | [_], _ => rfl
  have b26 := D26.F.binds (ps := ["store", "edit"]) fun _ _ _ _ _ _ us hl => match us, hl with | [_, _], _ => rfl
  have b27 := D27.F.binds (ps := ["edits"]) fun _ _ _ _ _ _ us hl => match us, hl with | [_], _ => rfl
  have b28 := D28.F.binds (ps := ["store", "edits"]) fun _ _ _ _ _ _ us hl => match us, hl with | [_, _], _ => rfl
  have b29 := D29.F.binds (ps := ["store", "edits"]) fun _ _ _ _ _ _ us hl => match us, hl with | [_, _], _ => rfl
  have b30 := D30.F.binds (ps := ["seed", "index"]) fun _ _ _ _ _ _ us hl => match us, hl with | [_, _], _ => rfl
  have b31 := D31.F.binds (ps := ["generator", "bound"]) fun _ _ _ _ _ _ us hl => match us, hl with | [_, _], _ => rfl
  have b32 := D32.F.binds (ps := ["script", "index"]) fun _ _ _ _ _ _ us hl => match us, hl with | [_, _], _ => rfl
  have b33 := D33.F.binds (ps := ["script", "index"]) fun _ _ _ _ _ _ us hl => match us, hl with | [_, _], _ => rfl
  have b34 := D34.F.binds (ps := ["generator", "things"]) fun _ _ _ _ _ _ us hl => match us, hl with | [_, _], _ => rfl
  have b35 := D35.F.binds (ps := ["generator", "items"]) fun _ _ _ _ _ _ us hl => match us, hl with | [_, _], _ => rfl
  have b36 := D36.F.binds (ps := ["generator", "most"]) fun _ _ _ _ _ _ us hl => match us, hl with | [_, _], _ => rfl
  have b37 := D37.F.binds (ps := ["generator", "most"]) fun _ _ _ _ _ _ us hl => match us, hl with | [_, _], _ => rfl
  have b38 := D38.F.binds (ps := ["which", "one", "other"]) fun _ _ _ _ _ _ us hl => match us, hl with | [_, _, _], _ => rfl
  have b39 := D39.F.binds (ps := ["which", "one", "other"]) fun _ _ _ _ _ _ us hl => match us, hl with | [_, _, _], _ => rfl
  have b40 := D40.F.binds (ps := ["told", "place", "bad"]) fun _ _ _ _ _ _ us hl => match us, hl with | [_, _, _], _ => rfl
  have b41 := D41.F.binds (ps := ["store", "free"]) fun _ _ _ _ _ _ us hl => match us, hl with | [_, _], _ => rfl
  have b42 := D42.F.binds (ps := []) fun _ _ _ _ _ _ us hl => match us, hl with | [], _ => rfl
  refine ⟨d43, fun s v => ?_, fun base => ?_⟩
  · obtain ⟨oc, od, kV, doc, pm, an, cdv, ct, osl, rfl, _⟩ := D43.F.ex
    exact .of_eq rfl
  have U0 : ErrUse P w K mg base "InvalidStore" C0 := E0.use it2
  have U1 : ErrUse P w K mg base "InvalidItem" C1 := E1.use it3
  have U2 : ErrUse P w K mg base "InvalidFact" C2 := E2.use it4
  have U3 : ErrUse P w K mg base "InvalidList" C3 := E3.use it5
  have U4 : ErrUse P w K mg base "TooMany" C4 := E4.use it6
  have o1 := ok_spelled (P := P) (w := w) (mg := mg) (base := base) D1.F c0 c1 c2 z2 z3
  have o0 := ok_isWord (P := P) (w := w) (mg := mg) (base := base) D0.F o1 b1 D1.F.kp D1.g z0 z1 c3 cc3
  have o2 := ok_whole (P := P) (w := w) (mg := mg) (base := base) D2.F z0 z4 z5
  have o3 := ok_between (P := P) (w := w) (mg := mg) (base := base) D3.F o2 b2 D2.F.kp D2.g
  have o4 := ok_number (P := P) (w := w) (mg := mg) (base := base) D4.F o3 b3 D3.F.kp D3.g c7
  have o5 := ok_words (P := P) (w := w) (mg := mg) (base := base) D5.F o0 b0 D0.F.kp D0.g z0 z6 z2 z7 z3
  have o6 := ok_marks (P := P) (w := w) (mg := mg) (base := base) D6.F o5 b5 D5.F.kp D5.g c4
  have o7 := ok_columns (P := P) (w := w) (mg := mg) (base := base) D7.F o5 b5 D5.F.kp D5.g c5 z8
  have o8 := ok_numbers (P := P) (w := w) (mg := mg) (base := base) D8.F o4 b4 D4.F.kp D4.g z0 z6 z3
  have o9 := ok_ascending (P := P) (w := w) (mg := mg) (base := base) D9.F z9 z3
  have o10 := ok_isFact (P := P) (w := w) (mg := mg) (base := base) D10.F o4 b4 D4.F.kp D4.g z0 z10 z2 z3
  have o11 := ok_clash (P := P) (w := w) (mg := mg) (base := base) D11.F 
  have o12 := ok_facts (P := P) (w := w) (mg := mg) (base := base) D12.F o10 b10 D10.F.kp D10.g o9 b9 D9.F.kp D9.g o11 b11 D11.F.kp D11.g z0 z6 z3
  have o13 := ok_isStore (P := P) (w := w) (mg := mg) (base := base) D13.F o6 b6 D6.F.kp D6.g o7 b7 D7.F.kp D7.g o8 b8 D8.F.kp D8.g o9 b9 D9.F.kp D9.g o12 b12 D12.F.kp D12.g z0 z10 z2 c6
  have o14 := ok_check (P := P) (w := w) (mg := mg) (base := base) D14.F o13 b13 D13.F.kp D13.g U0
  have o15 := ok_isItem (P := P) (w := w) (mg := mg) (base := base) D15.F o4 b4 D4.F.kp D4.g
  have o16 := ok_remade (P := P) (w := w) (mg := mg) (base := base) D16.F z6 z14
  have o17 := fnOk_or (ok_put (P := P) (w := w) (mg := mg) (base := base) D17.F o10 b10 D10.F.kp D10.g o11 b11 D11.F.kp D11.g o16 b16 D16.F.kp D16.g U2) (ok_putNo (P := P) (w := w) (mg := mg) (base := base) D17.F o10 b10 D10.F.kp D10.g o11 b11 D11.F.kp D11.g o16 b16 D16.F.kp D16.g U2)
  have o18 := fnOk_or (ok_take (P := P) (w := w) (mg := mg) (base := base) D18.F o10 b10 D10.F.kp D10.g o16 b16 D16.F.kp D16.g U2) (ok_takeNo (P := P) (w := w) (mg := mg) (base := base) D18.F o10 b10 D10.F.kp D10.g o16 b16 D16.F.kp D16.g U2)
  have o19 := ok_addG (P := P) (w := w) (mg := mg) (base := base) D19.F o4 b4 D4.F.kp D4.g o15 b15 D15.F.kp D15.g o16 b16 D16.F.kp D16.g z2 c6 U1 U4
  have o20 := ok_dropG (P := P) (w := w) (mg := mg) (base := base) D20.F o15 b15 D15.F.kp D15.g o16 b16 D16.F.kp D16.g z8 U1
  have o21 := ok_WFG (P := P) (w := w) (mg := mg) (base := base) D21.F o14 b14 D14.F.kp D14.g o17 b17 D17.F.kp D17.g
  have o22 := ok_OFG (P := P) (w := w) (mg := mg) (base := base) D22.F o14 b14 D14.F.kp D14.g o18 b18 D18.F.kp D18.g
  have o23 := ok_WIG (P := P) (w := w) (mg := mg) (base := base) D23.F o14 b14 D14.F.kp D14.g o19 b19 D19.F.kp D19.g
  have o24 := ok_OIG (P := P) (w := w) (mg := mg) (base := base) D24.F o14 b14 D14.F.kp D14.g o20 b20 D20.F.kp D20.g
  have o25 := ok_isEditG (P := P) (w := w) (mg := mg) (base := base) D25.F x6 x5 z0 z10 z2 z1
  have o26 := ok_madeG (P := P) (w := w) (mg := mg) (base := base) D26.F x6 x5 o17 b17 D17.F.kp D17.g o18 b18 D18.F.kp D18.g o19 b19 D19.F.kp D19.g o20 b20 D20.F.kp D20.g
  have o27 := ok_checkEditsG (P := P) (w := w) (mg := mg) (base := base) D27.F o25 b25 D25.F.kp D25.g z0 z6 z3 U3
  have o28 := ok_allMadeG (P := P) (w := w) (mg := mg) (base := base) D28.F o26 b26 D26.F.kp D26.g o16 b16 D16.F.kp D16.g
  have o29 := ok_doneG (P := P) (w := w) (mg := mg) (base := base) D29.F o14 b14 D14.F.kp D14.g o27 b27 D27.F.kp D27.g o28 b28 D28.F.kp D28.g
  have o30 := ok_hash (P := P) (w := w) (mg := mg) (base := base) D30.F z4
  have o31 := ok_random (P := P) (w := w) (mg := mg) (base := base) D31.F o30 b30 D30.F.kp D30.g z4 z11
  have o32 := ok_cell (P := P) (w := w) (mg := mg) (base := base) D32.F z2 z12
  have o33 := ok_generator (P := P) (w := w) (mg := mg) (base := base) D33.F o32 b32 D32.F.kp D32.g z4 z13
  have o34 := ok_order (P := P) (w := w) (mg := mg) (base := base) D34.F o31 b31 D31.F.kp D31.g z6 z2
  have o35 := ok_pairs (P := P) (w := w) (mg := mg) (base := base) D35.F o34 b34 D34.F.kp D34.g o31 b31 D31.F.kp D31.g z2 z11
  have o36 := ok_items (P := P) (w := w) (mg := mg) (base := base) D36.F o31 b31 D31.F.kp D31.g z11
  have o37 := ok_store (P := P) (w := w) (mg := mg) (base := base) D37.F o36 b36 D36.F.kp D36.g o35 b35 D35.F.kp D35.g o31 b31 D31.F.kp D31.g z14
  have o38 := ok_asked (P := P) (w := w) (mg := mg) (base := base) D38.F o21 b21 D21.F.kp D21.g o22 b22 D22.F.kp D22.g o23 b23 D23.F.kp D23.g o24 b24 D24.F.kp D24.g o29 b29 D29.F.kp D29.g
  have o39 := ok_caught (P := P) (w := w) (mg := mg) (base := base) (sp := askG K dM C0 C2 C1 C3 C4) D39.F o38 b38 D38.F.kp D38.g U0 U2 U1 U3 U4 x0 (exmA_of x1) (kitA_of x2) (knA_of x3) z15 z0
  have o40 := ok_only (P := P) (w := w) (mg := mg) (base := base) D40.F z11 z15
  have o42 := ok_near (P := P) (w := w) (mg := mg) (base := base) D42.F o39 b39 D39.F.kp D39.g o40 b40 D40.F.kp D40.g o23 b23 D23.F.kp D23.g (apartA_of x4) z15
  have o41 := ok_lists (P := P) (w := w) (mg := mg) (base := base) D41.F x6 x7 o39 b39 D39.F.kp D39.g o40 b40 D40.F.kp D40.g (apartA_of x4)
  exact ok_law D43.F x6 x7 o33 b33 D33.F.kp D33.g o37 b37 D37.F.kp D37.g o39 b39 D39.F.kp D39.g o40 b40 D40.F.kp D40.g o41 b41 D41.F.kp D41.g o42 b42 D42.F.kp D42.g z6 z11 (apartA_of x4)
end DQ

open PySem PySem.W PyProof.Rows
set_option maxRecDepth 100000 in
set_option maxHeartbeats 0 in
theorem PySem.Challenge.cw_depthquestions_k06_edits_refused_holds : PySem.Challenge.rw_depthquestions_k06_edits_refused.Holds := by
  w_on; o_law; k_head; (case hw => w_witness2)
  k_fill
  refine DQ.walkG (l := PySem.Challenge.rw_depthquestions_k06_edits_refused) (n := 63) (j := 12) (par := "script") (asks := DQ.spLaw) rfl (by decide) rfl ⟨rfl, by decide, by decide⟩ (fun w h Y => PySem.W.kIn_of Y) ?F (fun K H a ns _ _ hS => ⟨a, ns, rfl, hS, fun _ => rfl⟩)
  case F =>
    intro w mg fa h KX G hmg
    suffices A : ∃ fd : FuncData, (∀ (s : Shared) (v : Value), BindsTo s fd ⟨[v], []⟩ [("script", v)]) ∧ ∀ base : Heap, DQ.FnG (PySem.Challenge.rw_depthquestions_k06_edits_refused).prog w _ mg base L2.CX0 12 fa fd ["script"] (DQ.spLaw _) from A.imp fun fd z => ⟨z.1, fun base _ _ => z.2 base⟩
    refine' DQ.all_of hmg
      (DQ.err_mk KX G ?a0 (DQ.cls_mk ?xL0 ?rv0 ?sa0 ?eC0 ?tC0 ?kC0 ?ga0 ?gg0 ?ca0 ?cg0 ?ct0 ?mo0) ?hd0 ?nv0 ?eq0 ?ic0 ?ti0 ?lf0 ?cf0 ?kf0 ?lT0 ?dT0)
      (DQ.err_mk KX G ?a1 (DQ.cls_mk ?xL1 ?rv1 ?sa1 ?eC1 ?tC1 ?kC1 ?ga1 ?gg1 ?ca1 ?cg1 ?ct1 ?mo1) ?hd1 ?nv1 ?eq1 ?ic1 ?ti1 ?lf1 ?cf1 ?kf1 ?lT1 ?dT1)
      (DQ.err_mk KX G ?a2 (DQ.cls_mk ?xL2 ?rv2 ?sa2 ?eC2 ?tC2 ?kC2 ?ga2 ?gg2 ?ca2 ?cg2 ?ct2 ?mo2) ?hd2 ?nv2 ?eq2 ?ic2 ?ti2 ?lf2 ?cf2 ?kf2 ?lT2 ?dT2)
      (DQ.err_mk KX G ?a3 (DQ.cls_mk ?xL3 ?rv3 ?sa3 ?eC3 ?tC3 ?kC3 ?ga3 ?gg3 ?ca3 ?cg3 ?ct3 ?mo3) ?hd3 ?nv3 ?eq3 ?ic3 ?ti3 ?lf3 ?cf3 ?kf3 ?lT3 ?dT3)
      (DQ.err_mk KX G ?a4 (DQ.cls_mk ?xL4 ?rv4 ?sa4 ?eC4 ?tC4 ?kC4 ?ga4 ?gg4 ?ca4 ?cg4 ?ct4 ?mo4) ?hd4 ?nv4 ?eq4 ?ic4 ?ti4 ?lf4 ?cf4 ?kf4 ?lT4 ?dT4)
      (PySem.W.mg_of KX G ?gS)
      ?xa
      ?xb
      ?xc
      ?xd
      (PySem.W.mg_of KX G ?gM)
      (DQ.makers_mk ?mL ?mE ?mK ?mW ?m1 ?m2 ?m3 ?m4)
      ?xl
      (DQ.str_mk KX G ?c0 ?e0)
      (DQ.str_mk KX G ?c1 ?e1)
      (DQ.int_mk KX G ?c2 ?e2)
      (DQ.tup_mk KX G ?c3 ?l3 ?t3 ?d3 ?zz3 ?e3)
      (DQ.int_mk KX G ?c4 ?e4)
      (DQ.int_mk KX G ?c5 ?e5)
      (DQ.int_mk KX G ?c6 ?e6)
      (DQ.int_mk KX G ?c7 ?e7)
      (DQ.def_mk KX G ?da0 ?dl0 ?dc0 ?dk0)
      (DQ.def_mk KX G ?da1 ?dl1 ?dc1 ?dk1)
      (DQ.def_mk KX G ?da2 ?dl2 ?dc2 ?dk2)
      (DQ.def_mk KX G ?da3 ?dl3 ?dc3 ?dk3)
      (DQ.def_mk KX G ?da4 ?dl4 ?dc4 ?dk4)
      (DQ.def_mk KX G ?da5 ?dl5 ?dc5 ?dk5)
      (DQ.def_mk KX G ?da6 ?dl6 ?dc6 ?dk6)
      (DQ.def_mk KX G ?da7 ?dl7 ?dc7 ?dk7)
      (DQ.def_mk KX G ?da8 ?dl8 ?dc8 ?dk8)
      (DQ.def_mk KX G ?da9 ?dl9 ?dc9 ?dk9)
      (DQ.def_mk KX G ?da10 ?dl10 ?dc10 ?dk10)
      (DQ.def_mk KX G ?da11 ?dl11 ?dc11 ?dk11)
      (DQ.def_mk KX G ?da12 ?dl12 ?dc12 ?dk12)
      (DQ.def_mk KX G ?da13 ?dl13 ?dc13 ?dk13)
      (DQ.def_mk KX G ?da14 ?dl14 ?dc14 ?dk14)
      (DQ.def_mk KX G ?da15 ?dl15 ?dc15 ?dk15)
      (DQ.def_mk KX G ?da16 ?dl16 ?dc16 ?dk16)
      (DQ.def_mk KX G ?da17 ?dl17 ?dc17 ?dk17)
      (DQ.def_mk KX G ?da18 ?dl18 ?dc18 ?dk18)
      (DQ.def_mk KX G ?da19 ?dl19 ?dc19 ?dk19)
      (DQ.def_mk KX G ?da20 ?dl20 ?dc20 ?dk20)
      (DQ.def_mk KX G ?da21 ?dl21 ?dc21 ?dk21)
      (DQ.def_mk KX G ?da22 ?dl22 ?dc22 ?dk22)
      (DQ.def_mk KX G ?da23 ?dl23 ?dc23 ?dk23)
      (DQ.def_mk KX G ?da24 ?dl24 ?dc24 ?dk24)
      (DQ.def_mk KX G ?da25 ?dl25 ?dc25 ?dk25)
      (DQ.def_mk KX G ?da26 ?dl26 ?dc26 ?dk26)
      (DQ.def_mk KX G ?da27 ?dl27 ?dc27 ?dk27)
      (DQ.def_mk KX G ?da28 ?dl28 ?dc28 ?dk28)
      (DQ.def_mk KX G ?da29 ?dl29 ?dc29 ?dk29)
      (DQ.def_mk KX G ?da30 ?dl30 ?dc30 ?dk30)
      (DQ.def_mk KX G ?da31 ?dl31 ?dc31 ?dk31)
      (DQ.def_mk KX G ?da32 ?dl32 ?dc32 ?dk32)
      (DQ.def_mk KX G ?da33 ?dl33 ?dc33 ?dk33)
      (DQ.def_mk KX G ?da34 ?dl34 ?dc34 ?dk34)
      (DQ.def_mk KX G ?da35 ?dl35 ?dc35 ?dk35)
      (DQ.def_mk KX G ?da36 ?dl36 ?dc36 ?dk36)
      (DQ.def_mk KX G ?da37 ?dl37 ?dc37 ?dk37)
      (DQ.def_mk KX G ?da38 ?dl38 ?dc38 ?dk38)
      (DQ.def_mk KX G ?da39 ?dl39 ?dc39 ?dk39)
      (DQ.def_mk KX G ?da40 ?dl40 ?dc40 ?dk40)
      (DQ.def_mk KX G ?da41 ?dl41 ?dc41 ?dk41)
      (DQ.def_mk KX G ?da42 ?dl42 ?dc42 ?dk42)
      (DQ.def_mk KX G ?da43 ?dl43 ?dc43 ?dk43)
      (PySem.W.mg_none_of KX G ?z0)
      (PySem.W.mg_none_of KX G ?z1)
      (PySem.W.mg_none_of KX G ?z2)
      (PySem.W.mg_none_of KX G ?z3)
      (PySem.W.mg_none_of KX G ?z4)
      (PySem.W.mg_none_of KX G ?z5)
      (PySem.W.mg_none_of KX G ?z6)
      (PySem.W.mg_none_of KX G ?z7)
      (PySem.W.mg_none_of KX G ?z8)
      (PySem.W.mg_none_of KX G ?z9)
      (PySem.W.mg_none_of KX G ?z10)
      (PySem.W.mg_none_of KX G ?z11)
      (PySem.W.mg_none_of KX G ?z12)
      (PySem.W.mg_none_of KX G ?z13)
      (PySem.W.mg_none_of KX G ?z14)
      (PySem.W.mg_none_of KX G ?z15)
    (case a0 => k_is)
    (case xL0 => k_is)
    (case rv0 => decide +kernel)
    (case sa0 => k_is)
    (case eC0 => k_is)
    (case tC0 => k_is)
    (case kC0 => k_is)
    (case ga0 => k_is)
    (case gg0 => k_is)
    (case ca0 => k_is)
    (case cg0 => k_is)
    (case ct0 => k_is)
    (case mo0 => k_is)
    (case hd0 => k_is)
    (case nv0 => k_is)
    (case eq0 => k_is)
    (case ic0 => k_is)
    (case ti0 => k_is)
    (case lf0 => k_is)
    (case cf0 => k_is)
    (case kf0 => k_is)
    (case lT0 => k_is)
    (case dT0 => rfl)
    (case a1 => k_is)
    (case xL1 => k_is)
    (case rv1 => decide +kernel)
    (case sa1 => k_is)
    (case eC1 => k_is)
    (case tC1 => k_is)
    (case kC1 => k_is)
    (case ga1 => k_is)
    (case gg1 => k_is)
    (case ca1 => k_is)
    (case cg1 => k_is)
    (case ct1 => k_is)
    (case mo1 => k_is)
    (case hd1 => k_is)
    (case nv1 => k_is)
    (case eq1 => k_is)
    (case ic1 => k_is)
    (case ti1 => k_is)
    (case lf1 => k_is)
    (case cf1 => k_is)
    (case kf1 => k_is)
    (case lT1 => k_is)
    (case dT1 => rfl)
    (case a2 => k_is)
    (case xL2 => k_is)
    (case rv2 => decide +kernel)
    (case sa2 => k_is)
    (case eC2 => k_is)
    (case tC2 => k_is)
    (case kC2 => k_is)
    (case ga2 => k_is)
    (case gg2 => k_is)
    (case ca2 => k_is)
    (case cg2 => k_is)
    (case ct2 => k_is)
    (case mo2 => k_is)
    (case hd2 => k_is)
    (case nv2 => k_is)
    (case eq2 => k_is)
    (case ic2 => k_is)
    (case ti2 => k_is)
    (case lf2 => k_is)
    (case cf2 => k_is)
    (case kf2 => k_is)
    (case lT2 => k_is)
    (case dT2 => rfl)
    (case a3 => k_is)
    (case xL3 => k_is)
    (case rv3 => decide +kernel)
    (case sa3 => k_is)
    (case eC3 => k_is)
    (case tC3 => k_is)
    (case kC3 => k_is)
    (case ga3 => k_is)
    (case gg3 => k_is)
    (case ca3 => k_is)
    (case cg3 => k_is)
    (case ct3 => k_is)
    (case mo3 => k_is)
    (case hd3 => k_is)
    (case nv3 => k_is)
    (case eq3 => k_is)
    (case ic3 => k_is)
    (case ti3 => k_is)
    (case lf3 => k_is)
    (case cf3 => k_is)
    (case kf3 => k_is)
    (case lT3 => k_is)
    (case dT3 => rfl)
    (case a4 => k_is)
    (case xL4 => k_is)
    (case rv4 => decide +kernel)
    (case sa4 => k_is)
    (case eC4 => k_is)
    (case tC4 => k_is)
    (case kC4 => k_is)
    (case ga4 => k_is)
    (case gg4 => k_is)
    (case ca4 => k_is)
    (case cg4 => k_is)
    (case ct4 => k_is)
    (case mo4 => k_is)
    (case hd4 => k_is)
    (case nv4 => k_is)
    (case eq4 => k_is)
    (case ic4 => k_is)
    (case ti4 => k_is)
    (case lf4 => k_is)
    (case cf4 => k_is)
    (case kf4 => k_is)
    (case lT4 => k_is)
    (case dT4 => rfl)
    (case gS => k_is)
    (case gM => k_is)
    (case mL => k_is)
    (case mE => rfl)
    (case mK => exact ⟨⟨_, _, rfl, rfl⟩, ⟨_, _, rfl, rfl⟩, ⟨_, _, rfl, rfl⟩, ⟨_, _, rfl, rfl⟩, trivial⟩)
    (case mW => decide)
    (case m1 => k_is)
    (case m2 => k_is)
    (case m3 => k_is)
    (case m4 => k_is)
    (case c0 => k_is)
    (case e0 => decide +kernel)
    (case c1 => k_is)
    (case e1 => decide +kernel)
    (case c2 => k_is)
    (case e2 => rfl)
    (case c3 => k_is)
    (case l3 => k_is)
    (case t3 => rfl)
    (case d3 => rfl)
    (case zz3 => decide +kernel)
    (case e3 => decide +kernel)
    (case c4 => k_is)
    (case e4 => rfl)
    (case c5 => k_is)
    (case e5 => rfl)
    (case c6 => k_is)
    (case e6 => rfl)
    (case c7 => k_is)
    (case e7 => rfl)
    (case da0 => k_is)
    (case dl0 => k_is)
    (case dc0 => k_is)
    (case dk0 => k_is)
    (case da1 => k_is)
    (case dl1 => k_is)
    (case dc1 => k_is)
    (case dk1 => k_is)
    (case da2 => k_is)
    (case dl2 => k_is)
    (case dc2 => k_is)
    (case dk2 => k_is)
    (case da3 => k_is)
    (case dl3 => k_is)
    (case dc3 => k_is)
    (case dk3 => k_is)
    (case da4 => k_is)
    (case dl4 => k_is)
    (case dc4 => k_is)
    (case dk4 => k_is)
    (case da5 => k_is)
    (case dl5 => k_is)
    (case dc5 => k_is)
    (case dk5 => k_is)
    (case da6 => k_is)
    (case dl6 => k_is)
    (case dc6 => k_is)
    (case dk6 => k_is)
    (case da7 => k_is)
    (case dl7 => k_is)
    (case dc7 => k_is)
    (case dk7 => k_is)
    (case da8 => k_is)
    (case dl8 => k_is)
    (case dc8 => k_is)
    (case dk8 => k_is)
    (case da9 => k_is)
    (case dl9 => k_is)
    (case dc9 => k_is)
    (case dk9 => k_is)
    (case da10 => k_is)
    (case dl10 => k_is)
    (case dc10 => k_is)
    (case dk10 => k_is)
    (case da11 => k_is)
    (case dl11 => k_is)
    (case dc11 => k_is)
    (case dk11 => k_is)
    (case da12 => k_is)
    (case dl12 => k_is)
    (case dc12 => k_is)
    (case dk12 => k_is)
    (case da13 => k_is)
    (case dl13 => k_is)
    (case dc13 => k_is)
    (case dk13 => k_is)
    (case da14 => k_is)
    (case dl14 => k_is)
    (case dc14 => k_is)
    (case dk14 => k_is)
    (case da15 => k_is)
    (case dl15 => k_is)
    (case dc15 => k_is)
    (case dk15 => k_is)
    (case da16 => k_is)
    (case dl16 => k_is)
    (case dc16 => k_is)
    (case dk16 => k_is)
    (case da17 => k_is)
    (case dl17 => k_is)
    (case dc17 => k_is)
    (case dk17 => k_is)
    (case da18 => k_is)
    (case dl18 => k_is)
    (case dc18 => k_is)
    (case dk18 => k_is)
    (case da19 => k_is)
    (case dl19 => k_is)
    (case dc19 => k_is)
    (case dk19 => k_is)
    (case da20 => k_is)
    (case dl20 => k_is)
    (case dc20 => k_is)
    (case dk20 => k_is)
    (case da21 => k_is)
    (case dl21 => k_is)
    (case dc21 => k_is)
    (case dk21 => k_is)
    (case da22 => k_is)
    (case dl22 => k_is)
    (case dc22 => k_is)
    (case dk22 => k_is)
    (case da23 => k_is)
    (case dl23 => k_is)
    (case dc23 => k_is)
    (case dk23 => k_is)
    (case da24 => k_is)
    (case dl24 => k_is)
    (case dc24 => k_is)
    (case dk24 => k_is)
    (case da25 => k_is)
    (case dl25 => k_is)
    (case dc25 => k_is)
    (case dk25 => k_is)
    (case da26 => k_is)
    (case dl26 => k_is)
    (case dc26 => k_is)
    (case dk26 => k_is)
    (case da27 => k_is)
    (case dl27 => k_is)
    (case dc27 => k_is)
    (case dk27 => k_is)
    (case da28 => k_is)
    (case dl28 => k_is)
    (case dc28 => k_is)
    (case dk28 => k_is)
    (case da29 => k_is)
    (case dl29 => k_is)
    (case dc29 => k_is)
    (case dk29 => k_is)
    (case da30 => k_is)
    (case dl30 => k_is)
    (case dc30 => k_is)
    (case dk30 => k_is)
    (case da31 => k_is)
    (case dl31 => k_is)
    (case dc31 => k_is)
    (case dk31 => k_is)
    (case da32 => k_is)
    (case dl32 => k_is)
    (case dc32 => k_is)
    (case dk32 => k_is)
    (case da33 => k_is)
    (case dl33 => k_is)
    (case dc33 => k_is)
    (case dk33 => k_is)
    (case da34 => k_is)
    (case dl34 => k_is)
    (case dc34 => k_is)
    (case dk34 => k_is)
    (case da35 => k_is)
    (case dl35 => k_is)
    (case dc35 => k_is)
    (case dk35 => k_is)
    (case da36 => k_is)
    (case dl36 => k_is)
    (case dc36 => k_is)
    (case dk36 => k_is)
    (case da37 => k_is)
    (case dl37 => k_is)
    (case dc37 => k_is)
    (case dk37 => k_is)
    (case da38 => k_is)
    (case dl38 => k_is)
    (case dc38 => k_is)
    (case dk38 => k_is)
    (case da39 => k_is)
    (case dl39 => k_is)
    (case dc39 => k_is)
    (case dk39 => k_is)
    (case da40 => k_is)
    (case dl40 => k_is)
    (case dc40 => k_is)
    (case dk40 => k_is)
    (case da41 => k_is)
    (case dl41 => k_is)
    (case dc41 => k_is)
    (case dk41 => k_is)
    (case da42 => k_is)
    (case dl42 => k_is)
    (case dc42 => k_is)
    (case dk42 => k_is)
    (case da43 => k_is)
    (case dl43 => k_is)
    (case dc43 => k_is)
    (case dk43 => k_is)
    (case z0 => k_is)
    (case z1 => k_is)
    (case z2 => k_is)
    (case z3 => k_is)
    (case z4 => k_is)
    (case z5 => k_is)
    (case z6 => k_is)
    (case z7 => k_is)
    (case z8 => k_is)
    (case z9 => k_is)
    (case z10 => k_is)
    (case z11 => k_is)
    (case z12 => k_is)
    (case z13 => k_is)
    (case z14 => k_is)
    (case z15 => k_is)
    (case xa => kernel_rfl)
    (case xb => kernel_rfl)
    (case xc => kernel_rfl)
    (case xd => kernel_rfl)
    (case xl => k_is)

