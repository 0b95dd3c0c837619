import PyProof.Rows.All
import Wide.All
import OpenK.AllK
import Wide.FinOn
import HandS.ForMost
import HandS.ForExc
import HandS.Wide
import HandS.WideBits
import HandS.Deep
import HandS.IsInst
import HandS.Style
import KE.SortData
import HandS.ExcInit
import HandS.Strs
import HandS.Walk
import KE.LtData
import HandS.SetKeys
import PyProof.DictMoreH
import HandS.TupSets
import HandS.DictComp
import PyProof.ReprRoads
import PyProof.ReprLen
import HandS.Defaults
import HandS.ExcField
import HandS.More
import KE.KExcIs
import KE.KExcMake
import HandS.TupAny
import HandS.Star
import KE.KDictSum
import HandS.MakeKw
import HandS.WordsExc
import HandS.ExcOwn
import HandS.HeadEnd
import HandS.ExcValue
import HandS.Dict
import HandS.Conv
import PySem.Challenge.RW_depthquestions_k03_whole_stores_made
set_option Elab.async false
set_option linter.all false
set_option maxRecDepth 100000
set_option maxHeartbeats 4000000
namespace DQ
open PySem PySem.Spec PyProof.Rows L2
def topS (i : Nat) : Stmt := PySem.Challenge.pw_depthquestions_k03_whole_stores_made.main.body.getD i (.Pass ⟨0, 0, 0, 0⟩)
abbrev sHash : Stmt := topS 30
abbrev sRandom : Stmt := topS 31
abbrev sCell : Stmt := topS 32
abbrev sGenerator : Stmt := topS 33
theorem scHash : FnScope ["seed", "index", "mixed"] ["seed", "index"] (defScope sHash) := ⟨rfl, rfl, rfl, by decide +kernel, rfl, by decide +kernel, by decide +kernel⟩
theorem scRandom : FnScope ["generator", "bound", "drawn", "turn"] ["generator", "bound"] (defScope sRandom) := ⟨rfl, rfl, rfl, by decide +kernel, rfl, by decide +kernel, by decide +kernel⟩
theorem scCell : FnScope ["script", "index"] ["script", "index"] (defScope sCell) := ⟨rfl, rfl, rfl, by decide +kernel, rfl, by decide +kernel, by decide +kernel⟩
theorem scGenerator : FnScope ["script", "index", "seed"] ["script", "index"] (defScope sGenerator) := ⟨rfl, rfl, rfl, by decide +kernel, rfl, by decide +kernel, by decide +kernel⟩
theorem opr_mono {X : Cx} {f : Value → Value → Sem Value} {r r' : R2} (h : OpR X f r) (m : ∀ x y H Q, r' x y H Q → r x y H Q) : OpR X f r' := fun pins s σ H x y v u Q I rx ry q => h pins s σ H x y v u Q I rx ry (m x y H Q q)
/-- a remainder: a letter in its range -/
def rModL : R2 := fun x y H Q => ∃ i j, x = .int i ∧ y = .int j ∧ 0 < j ∧ ∀ r : Int, 0 ≤ r → r < j → r = i % j → Q (.int r) H
theorem op_modL {X : Cx} : OpR X (binaryOp .Mod) rModL := opr_mono op_mod fun x y H Q ⟨i, j, e1, e2, hj, q⟩ => ⟨i, j, e1, e2, hj, q _ (Int.emod_nonneg _ (by omega)) (Int.emod_lt_of_pos _ hj) rfl⟩
section
variable {P : Program} {w : World} {K : PySem.W.Frag} {mg : Str → Option Value} {base : Heap}
/-- the hash: some number below its modulus -/
def spHash : Sp := fun vs H Q _ => ∃ a b : Int, vs = [.int a, .int b] ∧ 0 ≤ a ∧ a < 2147483648 ∧ 0 ≤ b ∧ b ≤ 1073741824 ∧ ∀ r : Int, 0 ≤ r → r < 2147483647 → Q (.int r) H
theorem ok_hash {f : Addr} {fd : FuncData} (F : Fun K "_law_hash" "_law_hash" sHash f fd) (mi : mg "int" = none) : FnOk P w K mg base CX0 1 f fd ["seed", "index"] spHash := by
  refine F.ok scHash (fun vs H Q E h => ?_) (fun cdv A outer s H vs Q E hr h => ?_)
  · obtain ⟨a, b, rfl, _⟩ := h
    rfl
  · obtain ⟨a, b, rfl, ha, ha2, hb, hb2, q⟩ := h
    refine ⟨_, pss_cons (ps_set (i := 2) scHash.nd rfl (.inl rfl)
        (pe_op op_modL (pe_callTy call_int1 (by rfl) mi (by decide +kernel) (pa_cons
          (pe_op op_add (pe_op op_add (pe_op op_add (pe_op op_mul (pv 0) pe_int) (pe_op op_mul (pe_op op_mul pe_int (pv 1)) (pv 1))) (pe_op op_mul pe_int (pv 1))) pe_int) pa_nil)) pe_int))
      (pss_cons (ps_set (i := 2) scHash.nd rfl (.inl rfl)
        (pe_op op_modL (pe_callTy call_int1 (by rfl) mi (by decide +kernel) (pa_cons
          (pe_op op_add (pe_op op_add (pe_op op_mul (pv 2) (pv 2)) (pe_op op_mul pe_int (pv 1))) pe_int) pa_nil)) pe_int))
      (pss_one (ps_ret (pe_op op_modL (pe_callTy call_int1 (by rfl) mi (by decide +kernel) (pa_cons (pe_op op_mul (pv 2) pe_int) pa_nil)) pe_int)))), ?_⟩
    -- seed * c + c * index * index + c * index + c
    refine ⟨_, rfl, _, _, rfl, rfl, .inl ⟨by omega, by omega⟩, ?_⟩
    refine ⟨_, rfl, _, _, rfl, rfl, .inl ⟨by omega, by omega⟩, ?_⟩
    refine ⟨_, rfl, _, _, rfl, rfl, .inl ⟨by omega, by omega⟩, ?_⟩
    refine ⟨_, _, rfl, rfl, _, rfl, _, _, rfl, rfl, .inl ⟨by omega, by omega⟩, ?_⟩
    refine ⟨_, _, rfl, rfl, _, _, rfl, rfl, .inl ⟨_, rfl, _, _, rfl, rfl, by decide, fun m h0 h1 _ => ?_⟩⟩
    -- mixed * mixed + c * index + c
    refine ⟨_, rfl, _, rfl, _, _, rfl, rfl, .inl ⟨by omega, by omega⟩, ?_⟩
    refine ⟨_, rfl, _, _, rfl, rfl, .inl ⟨by omega, by omega⟩, ?_⟩
    refine ⟨_, _, rfl, rfl, _, _, rfl, rfl, .inl ⟨_, rfl, _, _, rfl, rfl, by decide, fun n h2 h3 _ => ?_⟩⟩
    refine ⟨_, rfl, _, _, rfl, rfl, .inl ⟨by omega, by omega⟩, .inl ⟨_, rfl, _, _, rfl, rfl, by decide, fun r h4 h5 _ => q r h4 h5⟩⟩
/-- the generator at g: three numbers, the count of hashed draws at most n -/
def Gen (H : Hp) (g : Addr) (n : Int) : Prop := ∃ a b c : Int, H g = some (.lst [.int a, .int b, .int c]) ∧ 0 ≤ a ∧ a.natAbs < 2 ^ 2000 ∧ 0 ≤ b ∧ b < 2147483647 ∧ 0 ≤ c ∧ c ≤ n
theorem Gen.mono {H : Hp} {g : Addr} {n m : Int} (h : Gen H g n) (k : n ≤ m) : Gen H g m := by
  obtain ⟨a, b, c, e, h1, h2, h3, h4, h5, h6⟩ := h
  exact ⟨a, b, c, e, h1, h2, h3, h4, h5, by omega⟩
/-- all but what stands at g is as it was -/
def But (g : Addr) (H H' : Hp) : Prop := ∀ b, b ≠ g → H' b = H b
def spRandom : Sp := fun vs H Q _ => ∃ (g : Addr) (m n : Int), vs = [.ref g, .int m] ∧ Gen H g n ∧ 1 ≤ m ∧ m < 618970019642690137449562112 ∧ n + 3 ≤ 1073741824 ∧
  ∀ (r : Int) (H' : Hp), 0 ≤ r → r < m → Gen H' g (n + 3) → But g H H' → Q (.int r) H'
/-- how great the drawn number is after so many turns -/
def top : Nat → Int
  | 0 => 1
  | 1 => 4294967296
  | 2 => 18446744073709551616
  | _ => 79228162514264337593543950336
theorem top_next {d : Int} {i : Nat} (d0 : 0 ≤ d) (h : d < top i) (hi : i < 3) : d < 79228162514264337593543950336 ∧ ∀ r : Int, r < 2147483647 → d * 2147483587 + r < top (i + 1) := by
  match i, hi with
  | 0, _ => simp only [top] at h ⊢; exact ⟨by omega, fun r hr => by omega⟩
  | 1, _ => simp only [top] at h ⊢; exact ⟨by omega, fun r hr => by omega⟩
  | 2, _ => simp only [top] at h ⊢; exact ⟨by omega, fun r hr => by omega⟩
theorem gen_set {H : Hp} {g : Addr} {o : HO} : But g H (upd H g o) := fun _ h => upd_ne h
theorem ok_random {f fh : Addr} {fd fdh : FuncData} (F : Fun K "_law_random" "_law_random" sRandom f fd) (G : FnOk P w K mg base CX0 1 fh fdh ["seed", "index"] spHash) (bh : Binds K fdh ["seed", "index"] []) (kh : PySem.W.keepIn K (.ref fh) = true) (mh : mg "_law_hash" = some (.ref fh))
    (mi : mg "int" = none) (mr : mg "range" = none) : FnOk P w K mg base CX0 2 f fd ["generator", "bound"] spRandom := by
  refine F.ok scRandom (fun vs H Q E h => ?_) (fun cdv A outer s H vs Q E hr h => ?_)
  · obtain ⟨g, m, n, rfl, _⟩ := h
    rfl
  obtain ⟨g, m, n, rfl, ⟨a, b, c, eg, a0, a1, b0, b1, c0, c1⟩, m1, m2, hn, q⟩ := h
  have nd := scRandom.nd
  refine ⟨_, pss_cons (ps_if (pt_cmpR op_gt (pe_ix ix_list (pv 0) pe_int (fun _ _ => rfl)) pe_int (nomark _))
      (pss_cons (ps_set (i := 2) nd rfl (.inl rfl) (pe_op op_modL (pe_callTy call_int1 (by rfl) mi (by decide +kernel) (pa_cons (pe_ix ix_list (pv 0) pe_int (fun _ _ => rfl)) pa_nil)) (pv 1)))
      (pss_cons (ps_asg (pe_op op_fdivW (pe_ix ix_list (pv 0) pe_int (fun _ _ => rfl)) (pv 1)) (pg_sub (pv 0) pe_int set_list))
      (pss_one (ps_ret (pv 2))))) pss_nil)
    (pss_cons (ps_set (i := 2) nd rfl (.inl rfl) pe_int)
    (pss_cons (ps_for PassesOwn.never rfl (pi_range1 (by rfl) mr (pa_cons (pe_op op_add pe_int (pe_op op_fdiv (pe_bits (pv 1)) pe_int)) pa_nil)) (pg_name (i := 3) nd rfl (.inl rfl))
      (pss_cons (ps_asg (pe_op op_add (pe_ix ix_list (pv 0) pe_int (fun _ _ => rfl)) pe_int) (pg_sub (pv 0) pe_int set_list))
      (pss_one (ps_set (i := 2) nd rfl (.inl rfl) (pe_op op_add (pe_op op_mulW (pv 2) pe_int)
        (pe_call G (hr.mono (by decide)) rfl mh kh bh .nil pass0 (pa_cons (pe_ix ix_list (pv 0) pe_int (fun _ _ => rfl)) (pa_cons (pe_ix ix_list (pv 0) pe_int (fun _ _ => rfl)) pa_nil))))))))
    (pss_one (ps_ret (pe_op op_modL (pe_callTy call_int1 (by rfl) mi (by decide +kernel) (pa_cons (pv 2) pa_nil)) (pv 1)))))), ?_⟩
  have L : SqL K H g [.int a, .int b, .int c] := SqL.of eg
  refine ⟨_, rfl, g, _, _, _, rfl, rfl, L, rfl, _, _, rfl, rfl, _, rfl, ite2 (fun ha => ?_) fun ha => ?_⟩
  · -- digits of the seed
    refine ⟨_, rfl, g, _, _, _, rfl, rfl, L, rfl, .inl ⟨_, rfl, _, rfl, _, _, rfl, rfl, by omega, fun r r0 r1 _ => ?_⟩⟩
    refine ⟨_, rfl, g, _, _, _, rfl, rfl, L, rfl, _, rfl, _, _, rfl, rfl, wide_div (b := 90) (by omega) (by omega) (by decide) (by decide), _, rfl, g, _, _, _, rfl, rfl, eg, rfl, ?_⟩
    refine ⟨_, rfl, ?_⟩
    refine q r _ r0 r1 ⟨_, _, _, upd_same, Int.ediv_nonneg a0 (by omega), ?_, b0, b1, c0, by omega⟩ gen_set
    have h1 : a / m ≤ a := Int.ediv_le_self _ a0
    have h2 : 0 ≤ a / m := Int.ediv_nonneg a0 (by omega)
    exact wide_le h2 h1 a1
  · -- hashed
    have hb1 := intBits_le (a := m) (k := 89) (by omega)
    have hb0 : (0 : Int) ≤ ((Builtin.Int.intBits m : Nat) : Int) := Int.natCast_nonneg _
    have hb2 : ((Builtin.Int.intBits m : Nat) : Int) / 30 ≤ 2 := by omega
    have hb3 : 0 ≤ ((Builtin.Int.intBits m : Nat) : Int) / 30 := by omega
    refine ⟨_, rfl, _, rfl, _, _, rfl, rfl, ⟨by decide, by decide⟩, _, _, rfl, rfl, _, rfl, by omega, by omega, ?_⟩
    generalize ((Builtin.Int.intBits m : Nat) : Int) / 30 = z at hb2 hb3
    refine for_range (lo := 0) (n := (1 + z).toNat) (fun i σ H1 => ∃ (d : Int) (y : Option V), σ = [some (.ref g), some (.int m), some (.int d), y] ∧ 0 ≤ d ∧ d < top i ∧ (∃ c' : Int, H1 g = some (.lst [.int a, .int b, .int c']) ∧ 0 ≤ c' ∧ c' ≤ c + i) ∧ But g H H1)
      ⟨0, none, rfl, by decide, by decide, ⟨c, eg, c0, by omega⟩, fun _ _ => rfl⟩ (fun i σ H1 hi hP => ?_) (fun σ H1 hP => ?_)
    · obtain ⟨d, y, rfl, d0, d1, ⟨c', e1, c2, c3⟩, bt⟩ := hP
      have L1 : SqL K H1 g [.int a, .int b, .int c'] := SqL.of e1
      -- generator[2] = generator[2] + 1
      refine ⟨_, rfl, g, _, _, _, rfl, rfl, L1, rfl, _, _, rfl, rfl, _, rfl, g, _, _, _, rfl, rfl, e1, rfl, ?_⟩
      have L2 : SqL K (upd H1 g (.lst [.int a, .int b, .int (c' + 1)])) g [.int a, .int b, .int (c' + 1)] := SqL.of upd_same
      have hd := top_next d0 d1 (show i < 3 by omega)
      refine ⟨_, rfl, d, 2147483587, rfl, rfl, wide_mul (a := 96) (b := 32) (by omega) (by decide) (by decide) (by decide) (by decide), ?_⟩
      refine ⟨_, rfl, g, _, _, _, rfl, rfl, L2, rfl, _, rfl, g, _, _, _, rfl, rfl, L2, rfl, ?_⟩
      refine ⟨_, _, rfl, b0, by omega, by omega, by omega, fun r r0 r1 => ?_⟩
      refine ⟨_, _, rfl, rfl, _, _, rfl, by omega, hd.2 r r1, ⟨c' + 1, upd_same, by omega, by omega⟩, fun x hx => ?_⟩
      · rw [upd_ne hx]
        exact bt x hx
    · obtain ⟨d, y, rfl, d0, d1, ⟨c', e1, c2, c3⟩, bt⟩ := hP
      refine ⟨_, rfl, .inl ⟨_, rfl, _, rfl, _, _, rfl, rfl, by omega, fun r r0 r1 _ => ?_⟩⟩
      exact q r _ r0 r1 ⟨a, b, c', e1, a0, a1, b0, b1, c2, by omega⟩ bt
theorem same_new {H : Hp} {p : Addr} {o : HO} (h : H p = none) : Same H (upd H p o) := fun b x e => by
  rw [upd_ne (ne_of_none e h)]
  exact e
def spCell (K : PySem.W.Frag) : Sp := fun vs H Q _ => ∃ (a : Addr) (ns : List Int) (i : Nat), vs = [.ref a, .int i] ∧ SqL K H a (ns.map V.int) ∧ ∀ (r : Int) (H' : Hp), Same H H' → Q (.int r) H'
theorem ok_cell {f : Addr} {fd : FuncData} (F : Fun K "_law_cell" "_law_cell" sCell f fd) (ml : mg "len" = none) (ms : mg "sum" = none) : FnOk P w K mg base CX0 1 f fd ["script", "index"] (spCell K) := by
  refine F.ok scCell (fun vs H Q E h => ?_) (fun cdv A outer s H vs Q E hr h => ?_)
  · obtain ⟨a, ns, i, rfl, _⟩ := h
    rfl
  obtain ⟨a, ns, i, rfl, L, q⟩ := h
  refine ⟨_, pss_cons (ps_if (pt_cmpR op_lt (pv 1) (pe_callB call_len_seq (by rfl) ml PySem.boot_len (pa_cons (pv 0) pa_nil)) (nomark _)) (pss_one (ps_ret (pe_ix ix_list (pv 0) (pv 1) (fun _ _ => rfl)))) pss_nil)
    (pss_one (ps_ret (pe_op op_modL (pe_callB (cr_sum rfl) (by rfl) ms (by decide +kernel) (pa_cons (pe_slice sl_list (pv 0) po_none (po_some pe_int)) pa_nil)) pe_int))), ?_⟩
  refine ⟨_, rfl, _, rfl, a, _, rfl, .inl L, _, _, rfl, rfl, _, rfl, ite2 (fun hi => ?_) fun _ => ?_⟩
  · have hl : i < ns.length := by
      have e := of_decide_eq_true hi
      rw [List.length_map] at e
      omega
    refine ⟨_, rfl, _, rfl, a, _, _, _, rfl, rfl, L, atI_nat (v := .int ns[i]) ?_, q _ _ (Same.refl _)⟩
    rw [List.getElem?_map, List.getElem?_eq_getElem hl]
    rfl
  · refine ⟨_, rfl, 1, rfl, a, _, rfl, L, fun p hp => ?_⟩
    have e : cutV (ns.map V.int) none (some 1) = (ns.take (HT.sIx (ns.map V.int).length (ns.map V.int).length (some 1) - HT.sIx (ns.map V.int).length 0 none) |>.map V.int) := by
      unfold cutV
      rw [HT.sIx_none, List.drop_zero, List.map_take]
    rw [e]
    exact ⟨p, _, rfl, SqL.of upd_same, _, _, rfl, rfl, by decide, fun r _ _ _ => q r _ (same_new hp)⟩
theorem op_powW {X : Cx} : OpR X (binaryOp .Pow) (rI (fun i j => 0 ≤ j ∧ (Builtin.Int.intBits i : Int) * j ≤ 2 ^ 27) fun i j => .int (i ^ j.toNat)) := opI fun _ _ _ _ _ _ _ hc q => pow_int hc.1 hc.2 q
def spGenerator (K : PySem.W.Frag) : Sp := fun vs H Q _ => ∃ (a : Addr) (ns : List Int) (i : Nat), vs = [.ref a, .int i] ∧ i ≤ 100 ∧ SqL K H a (ns.map V.int) ∧ ∀ (p : Addr) (H' : Hp), Same H H' → H p = none → Gen H' p (1000 * i) → Q (.ref p) H'
theorem ok_generator {f fc : Addr} {fd fdc : FuncData} (F : Fun K "_law_generator" "_law_generator" sGenerator f fd) (G : FnOk P w K mg base CX0 1 fc fdc ["script", "index"] (spCell K)) (bc : Binds K fdc ["script", "index"] []) (kc : PySem.W.keepIn K (.ref fc) = true) (mc : mg "_law_cell" = some (.ref fc))
    (mi : mg "int" = none) (mm : mg "max" = none) : FnOk P w K mg base CX0 2 f fd ["script", "index"] (spGenerator K) := by
  refine F.ok scGenerator (fun vs H Q E h => ?_) (fun cdv A outer s H vs Q E hr h => ?_)
  · obtain ⟨a, ns, i, rfl, _⟩ := h
    rfl
  obtain ⟨a, ns, i, rfl, hi, L, q⟩ := h
  refine ⟨_, pss_cons (ps_set (i := 2) scGenerator.nd rfl (.inl rfl) (pe_call G (hr.mono (by decide)) rfl mc kc bc .nil pass0 (pa_cons (pv 0) (pa_cons (pv 1) pa_nil))))
    (pss_one (ps_ret (pe_lst (pa_cons (pe_op op_modL (pe_callTy call_int1 (by rfl) mi (by decide +kernel) (pa_cons (pe_callB (call_max2 rfl) (by rfl) mm (by decide +kernel) (pa_cons (pe_op op_sub (pv 2) (pe_op op_pow pe_int pe_int)) (pa_cons pe_int pa_nil))) pa_nil)) (pe_op op_powW (pe_op op_pow pe_int pe_int) pe_int))
      (pa_cons (pe_op op_modL (pe_callTy call_int1 (by rfl) mi (by decide +kernel) (pa_cons (pv 2) pa_nil)) pe_int) (pa_cons (pe_op op_mul pe_int (pv 1)) pa_nil)))))), ?_⟩
  refine ⟨_, rfl, _, rfl, a, ns, i, rfl, L, fun seed H1 s1 => ?_⟩
  refine ⟨_, rfl, _, _, rfl, rfl, ⟨by decide, by decide, by decide⟩, _, _, rfl, rfl, _, _, rfl, .inl ⟨_, rfl, ?_⟩⟩
  refine ⟨_, _, rfl, rfl, ⟨by decide, by decide, by decide⟩, _, _, rfl, rfl, ⟨by decide, by decide +kernel⟩, ?_⟩
  refine ⟨_, _, rfl, rfl, by decide +kernel, fun x x0 x1 _ => ?_⟩
  refine ⟨_, rfl, .inl ⟨_, rfl, _, _, rfl, rfl, by decide, fun y y0 y1 _ => ?_⟩⟩
  refine ⟨_, rfl, _, _, rfl, rfl, .inl ⟨by decide, by decide⟩, ?_⟩
  refine ⟨by show 3 ≤ sizeLine; decide, fun p hp => ?_⟩
  refine q p _ (s1.trans (same_new hp)) (s1.free hp) ⟨x, y, _, upd_same, x0, ?_, y0, y1, by omega, by omega⟩
  exact wide_le x0 (Int.le_of_lt x1) (by decide +kernel)
end
end DQ

set_option Elab.async false
set_option linter.all false
set_option maxRecDepth 100000
set_option maxHeartbeats 1000000
namespace DQ
open PySem PySem.Spec PyProof.Rows
open L2 (Hp V VK XK R2 OpR SqL SqT Inv RelV Vals HOk Cx)
/-! ### data on the heap, empty dicts among it -/
mutual
inductive Dp (K : PySem.W.Frag) (H : Hp) : V → PyData → Prop
  | non : Dp K H .non .none
  | bl (b : Bool) : Dp K H (.bl b) (.bool b)
  | int (i : Int) : Dp K H (.int i) (.int i)
  | str (x : Str) : Dp K H (.str x) (.str x)
  | lst {a : Addr} {xs : List V} {ds : List PyData} (h : SqL K H a xs) (r : DpAll K H xs ds) : Dp K H (.ref a) (.list ds)
  | tup {a : Addr} {xs : List V} {ds : List PyData} (h : SqT K H a xs) (r : DpAll K H xs ds) : Dp K H (.ref a) (.tuple ds)
  | dct {a : Addr} (h : H a = some (.dK [])) : Dp K H (.ref a) (.dict [])
inductive DpAll (K : PySem.W.Frag) (H : Hp) : List V → List PyData → Prop
  | nil : DpAll K H [] []
  | cons {v : V} {vs : List V} {d : PyData} {ds : List PyData} (h : Dp K H v d) (r : DpAll K H vs ds) : DpAll K H (v :: vs) (d :: ds)
end
mutual
theorem Dp.old {K : PySem.W.Frag} {H : Hp} : ∀ (d : PyData) {v : V}, Dp K H v d → d.hasDict = false → L2.Dp K H v d
  | .none, _, h, _ => by cases h; exact .non
  | .bool b, _, h, _ => by cases h; exact .bl b
  | .int i, _, h, _ => by cases h; exact .int i
  | .str x, _, h, _ => by cases h; exact .str x
  | .list ds, _, h, n => by
    cases h with
    | lst h r => exact .lst h (DpAll.old ds r (by simpa only [PyData.hasDict] using n))
  | .tuple ds, _, h, n => by
    cases h with
    | tup h r => exact .tup h (DpAll.old ds r (by simpa only [PyData.hasDict] using n))
  | .dict _, _, _, n => by simp [PyData.hasDict] at n
theorem DpAll.old {K : PySem.W.Frag} {H : Hp} : ∀ (ds : List PyData) {vs : List V}, DpAll K H vs ds → PyData.hasDictAll ds = false → L2.DpAll K H vs ds
  | [], _, h, _ => by cases h; exact .nil
  | d :: ds, _, h, n => by
    simp only [PyData.hasDictAll, Bool.or_eq_false_iff] at n
    cases h with
    | cons a b => exact .cons (Dp.old d a n.1) (DpAll.old ds b n.2)
end
mutual
theorem Dp.reads {X : Cx} {pins : List (Addr × Obj)} {σ : L2.St} {H : Hp} {s : Shared} (I : Inv X pins σ H s) : ∀ (d : PyData) (v : V) (u : Value), Dp X.K H v d → RelV v u → ∃ as, Reads s.heap u d as
  | .none, _, _, h, r => by cases h; cases r; exact ⟨_, Reads.none⟩
  | .bool b, _, _, h, r => by cases h; cases r; exact ⟨_, Reads.bool b⟩
  | .int i, _, _, h, r => by
    cases h
    obtain ⟨t, rfl⟩ := r
    exact ⟨_, Reads.int i t⟩
  | .str x, _, _, h, r => by
    cases h
    obtain ⟨t, rfl⟩ := r
    exact ⟨_, Reads.str x t⟩
  | .list ds, _, _, h, r => by
    cases h with
    | lst hs ha =>
      obtain rfl : _ = Value.ref _ := r
      obtain ⟨its, rv, ⟨o, n, ho, hc, _, hd⟩, _⟩ := I.list hs
      obtain ⟨as, hr⟩ := DpAll.reads I ds _ its ha rv
      exact ⟨_, Reads.list ho hc hd hr⟩
  | .tuple ds, _, _, h, r => by
    cases h with
    | tup hs ha =>
      obtain rfl : _ = Value.ref _ := r
      obtain ⟨its, rv, ⟨o, ho, hc, n, hd⟩, _⟩ := I.tuple hs
      obtain ⟨as, hr⟩ := DpAll.reads I ds _ its ha rv
      exact ⟨_, Reads.tuple ho hc hd hr⟩
  | .dict kvs, _, _, h, r => by
    cases h with
    | dct hs =>
      obtain rfl : _ = Value.ref _ := r
      obtain ⟨_, _, vs, kv, o, es, ep, ho, ex, hd, _, ps, _⟩ := L2.dk_of I.hok hs
      have e0 : vs = [] := by
        cases kv
        rfl
      subst e0
      have l := PySem.Pairs.length ps
      have e1 : es.toList = [] := List.length_eq_zero_iff.mp (by simpa using l)
      refine ⟨_, Reads.dict ho ex.1 hd (as := []) (bs := []) ?_ ?_⟩
      · rw [e1]
        exact ReadsAll.nil
      · rw [e1]
        exact ReadsAll.nil
theorem DpAll.reads {X : Cx} {pins : List (Addr × Obj)} {σ : L2.St} {H : Hp} {s : Shared} (I : Inv X pins σ H s) : ∀ (ds : List PyData) (vs : List V) (us : List Value), DpAll X.K H vs ds → Vals vs us → ∃ as, ReadsAll s.heap us ds as
  | [], _, _, h, r => by cases h; cases r; exact ⟨_, ReadsAll.nil⟩
  | d :: ds, _, _, h, r => by
    cases h with
    | cons h1 h2 =>
      cases r with
      | cons r1 r2 =>
        obtain ⟨as, q1⟩ := Dp.reads I d _ _ h1 r1
        obtain ⟨bs, q2⟩ := DpAll.reads I ds _ _ h2 r2
        exact ⟨_, ReadsAll.cons q1 q2⟩
end
theorem shaped_plain {d : PyData} (h : SeqAt.shaped d = true) : d.hasDict = false := PyData.hasDict_of_canLay d (SeqAt.canLay_of_shaped h)
section
variable {X : Cx}
def rEqD (K : PySem.W.Frag) : R2 := fun x y H Q => ∃ d e, Dp K H x d ∧ Dp K H y e ∧ SeqAt.shaped d = true ∧ SeqAt.shaped e = true ∧ Q (.bl (PyData.eqv d e)) H
def rNeD (K : PySem.W.Frag) : R2 := fun x y H Q => ∃ d e, Dp K H x d ∧ Dp K H y e ∧ SeqAt.shaped d = true ∧ SeqAt.shaped e = true ∧ Q (.bl (!PyData.eqv d e)) H
theorem op_eqD (hu : X.A.units + 64 < cLine) : OpR X (compareOp .Eq) (rEqD X.K) := opr_mono (L2.op_eqD hu) fun x y H Q ⟨d, e, hd, he, sd, se, q⟩ => ⟨d, e, hd.old d (shaped_plain sd), he.old e (shaped_plain se), sd, se, q⟩
theorem op_neD (hu : X.A.units + 64 < cLine) : OpR X (compareOp .NotEq) (rNeD X.K) := opr_mono (L2.op_neD hu) fun x y H Q ⟨d, e, hd, he, sd, se, q⟩ => ⟨d, e, hd.old d (shaped_plain sd), he.old e (shaped_plain se), sd, se, q⟩
def rInD (K : PySem.W.Frag) : R2 := fun x y H Q => ∃ d ds, Dp K H x d ∧ Dp K H y (.list ds) ∧ SeqAt.shaped d = true ∧ SeqAt.shaped (.list ds) = true ∧ Q (.bl (ds.any fun z => PyData.eqv z d)) H
def rNotInD (K : PySem.W.Frag) : R2 := fun x y H Q => ∃ d ds, Dp K H x d ∧ Dp K H y (.list ds) ∧ SeqAt.shaped d = true ∧ SeqAt.shaped (.list ds) = true ∧ Q (.bl (!ds.any fun z => PyData.eqv z d)) H
theorem op_inD (hu : X.A.units + 65 < cLine) : OpR X (compareOp .In) (rInD X.K) := opr_mono (L2.op_inD hu) fun x y H Q ⟨d, ds, hd, he, sd, se, q⟩ => ⟨d, ds, hd.old d (shaped_plain sd), he.old _ (shaped_plain se), sd, se, q⟩
theorem op_notInD (hu : X.A.units + 65 < cLine) : OpR X (compareOp .NotIn) (rNotInD X.K) := opr_mono (L2.op_notInD hu) fun x y H Q ⟨d, ds, hd, he, sd, se, q⟩ => ⟨d, ds, hd.old d (shaped_plain sd), he.old _ (shaped_plain se), sd, se, q⟩
end
end DQ

set_option Elab.async false
set_option linter.all false
set_option maxRecDepth 100000
set_option maxHeartbeats 4000000
namespace DQ
open PySem PySem.Spec PyProof.Rows L2
abbrev sOrder : Stmt := topS 34
theorem scOrder : FnScope ["generator", "things", "left", "found"] ["generator", "things"] (defScope sOrder) := ⟨rfl, rfl, rfl, by decide +kernel, rfl, by decide +kernel, by decide +kernel⟩
/-! ### data read off the heap -/
theorem dp_ints {K : PySem.W.Frag} {H : Hp} : ∀ ns : List Int, DpAll K H (ns.map V.int) (ns.map PyData.int)
  | [] => .nil
  | n :: r => .cons (.int n) (dp_ints r)
theorem flat_ints : ∀ ns : List Int, PyData.canLayAll0 (ns.map PyData.int) = true ∧ PyData.depthAll (ns.map PyData.int) = 0
  | [] => ⟨rfl, rfl⟩
  | n :: r => ⟨by show (true && PyData.canLayAll0 (r.map PyData.int)) = true; rw [(flat_ints r).1]; rfl, by show max 0 (PyData.depthAll (r.map PyData.int)) = 0; rw [(flat_ints r).2]; rfl⟩
theorem shaped_of {d : PyData} (h1 : d.canLay0 = true) (h2 : d.depth ≤ 64) : SeqAt.shaped d = true := by
  unfold SeqAt.shaped
  rw [h1, decide_eq_true h2]
  rfl
theorem shaped_ints (ns : List Int) : SeqAt.shaped (.list (ns.map PyData.int)) = true := shaped_of (flat_ints ns).1 (by show PyData.depthAll (ns.map PyData.int) + 1 ≤ 64; rw [(flat_ints ns).2]; decide)
/-- all but what stands at g stays, new things may come -/
def Keep (g : Addr) (H H' : Hp) : Prop := ∀ b o, b ≠ g → H b = some o → H' b = some o
theorem Keep.refl (g : Addr) (H : Hp) : Keep g H H := fun _ _ _ h => h
theorem Keep.trans {g : Addr} {H H1 H2 : Hp} (a : Keep g H H1) (b : Keep g H1 H2) : Keep g H H2 := fun c o n h => b c o n (a c o n h)
theorem Keep.of_same {g : Addr} {H H' : Hp} (s : Same H H') : Keep g H H' := fun b o _ h => s b o h
theorem Keep.of_but {g : Addr} {H H' : Hp} (s : But g H H') : Keep g H H' := fun b o n h => (s b n).trans h
theorem Keep.seq {K : PySem.W.Frag} {g a : Addr} {H H' : Hp} {xs : List V} (k : Keep g H H') (ne : a ≠ g) (h : SqL K H a xs) : SqL K H' a xs := by
  rcases h with (h | ⟨o, h⟩) | h
  · exact .inl (.inl (k _ _ ne h))
  · exact .inl (.inr ⟨o, k _ _ ne h⟩)
  · exact .inr h
theorem Gen.at {H : Hp} {g : Addr} {n : Int} (h : Gen H g n) : ∃ o, H g = some o := let ⟨_, _, _, e, _⟩ := h; ⟨_, e⟩
theorem Gen.same {H H' : Hp} {g : Addr} {n : Int} (h : Gen H g n) (s : Same H H') : Gen H' g n := by
  obtain ⟨a, b, c, e, r⟩ := h
  exact ⟨a, b, c, s _ _ e, r⟩
theorem Gen.upd {H : Hp} {g b : Addr} {n : Int} {o : HO} (h : Gen H g n) (ne : g ≠ b) : Gen (upd H b o) g n := by
  obtain ⟨x, y, c, e, r⟩ := h
  exact ⟨x, y, c, by rw [upd_ne ne]; exact e, r⟩
theorem Gen.ne {H : Hp} {g p : Addr} {n : Int} (h : Gen H g n) (hp : H p = none) : p ≠ g := fun e => by
  obtain ⟨o, z⟩ := h.at
  rw [← e, hp] at z
  cases z
theorem But.free {g p : Addr} {H H' : Hp} {n : Int} (k : But g H H') (G : Gen H g n) (h : H p = none) : H' p = none := (k p (G.ne h)).trans h
/-- what was free before is free unless something was put there -/
theorem Keep.free {g p : Addr} {H H' : Hp} (k : Keep g H H') (G : ∃ o, H g = some o) (h : H' p = none) (hg : ∃ o, H' g = some o) : H p = none := by
  by_cases e : p = g
  · obtain ⟨o, z⟩ := hg
    rw [e, z] at h
    cases h
  · cases q : H p with
    | none => rfl
    | some o =>
      rw [k p o e q] at h
      cases h
theorem perm_erase {α : Type} : ∀ {l : List α} {k : Nat} {y : α}, l[k]? = some y → (y :: l.eraseIdx k).Perm l
  | [], k, y, h => by simp at h
  | x :: l, 0, y, h => by
    have e : x = y := by simpa using h
    subst e
    exact List.Perm.refl _
  | x :: l, k + 1, y, h => by
    have h' : l[k]? = some y := by simpa using h
    exact (List.Perm.swap x y (l.eraseIdx k)).trans ((perm_erase h').cons x)
theorem seq_at {r : Int} {m : Nat} (h0 : 0 ≤ r) (h1 : r < m) : seqIndex? r m = some r.toNat := by
  show (if (decide (0 ≤ (if r < 0 then r + m else r)) && decide ((if r < 0 then r + m else r) < m)) = true then some (if r < 0 then r + m else r).toNat else none) = _
  rw [if_neg (show ¬ r < 0 by omega), decide_eq_true h0, decide_eq_true h1]
  rfl
/-- how long the list at l is -/
def size (H : Hp) (l : Addr) : Nat := match H l with
  | some (.lst xs) => xs.length
  | _ => 0
theorem size_of {H : Hp} {l : Addr} {xs : List V} (h : H l = some (.lst xs)) : size H l = xs.length := by
  unfold size
  rw [h]
theorem map_erase {α β : Type} (f : α → β) : ∀ (l : List α) (k : Nat), (l.map f).eraseIdx k = (l.eraseIdx k).map f
  | [], _ => rfl
  | _ :: _, 0 => rfl
  | x :: l, k + 1 => congrArg (f x :: ·) (map_erase f l k)
section
variable {P : Program} {w : World} {K : PySem.W.Frag} {mg : Str → Option Value} {base : Heap}
/-- the same numbers in some order, in a new list -/
def spOrder (K : PySem.W.Frag) : Sp := fun vs H Q _ => ∃ (g t : Addr) (ns : List Int) (n : Int), vs = [.ref g, .ref t] ∧ SqL K H t (ns.map V.int) ∧ t ≠ g ∧ Gen H g n ∧ ns.length ≤ 100 ∧ n + 3 * ns.length ≤ 1073741824 ∧
  ∀ (p : Addr) (ms : List Int) (H' : Hp), ms.Perm ns → Keep g H H' → H p = none → H' p = some (.lst (ms.map V.int)) → Gen H' g (n + 3 * ns.length) → Q (.ref p) H'
theorem ok_order {f fr : Addr} {fd fdr : FuncData} (F : Fun K "_law_drawn_order" "_law_drawn_order" sOrder f fd) (G : FnOk P w K mg base CX0 2 fr fdr ["generator", "bound"] spRandom) (br : Binds K fdr ["generator", "bound"] []) (kr : PySem.W.keepIn K (.ref fr) = true) (mr : mg "_law_random" = some (.ref fr))
    (ml : mg "list" = none) (mn : mg "len" = none) : FnOk P w K mg base CX0 3 f fd ["generator", "things"] (spOrder K) := by
  refine F.ok scOrder (fun vs H Q E h => ?_) (fun cdv A outer s H vs Q E hr h => ?_)
  · obtain ⟨g, t, ns, n, rfl, _⟩ := h
    rfl
  obtain ⟨g, t, ns, n, rfl, L, ntg, gen, h100, hn, q⟩ := h
  have nd := scOrder.nd
  refine ⟨_, pss_cons (ps_par (i := 2) (j := 3) rfl nd rfl rfl (by decide) rfl rfl (pa_cons (pe_callTy call_list_of (by rfl) ml (by decide +kernel) (pa_cons (pv 1) pa_nil)) (pa_cons (pe_lst pa_nil) pa_nil)) (by rfl))
    (pss_cons (ps_while PassesOwn.never (pt_cmpR (op_neD hr.units) (pv 2) (pe_lst pa_nil) (nomark _))
      (pss_one (ps_expr (pe_bm PySem.F.plainAttrs_list PySem.F.slot_list_append PySem.F.type_list_append mt_append (pv 3) (pa_cons
        (pe_bm PySem.F.plainAttrs_list PySem.F.slot_list_pop PySem.F.type_list_pop mt_popAt (pv 2) (pa_cons
          (pe_call G (hr.mono (by decide)) rfl mr kr br .nil pass0 (pa_cons (pv 0) (pa_cons (pe_callB call_len_seq (by rfl) mn PySem.boot_len (pa_cons (pv 2) pa_nil)) pa_nil))) pa_nil)) pa_nil)))))
    (pss_one (ps_ret (pv 3)))), ?_⟩
  refine ⟨_, rfl, t, _, rfl, .inl L, fun l nl => ⟨Nat.zero_le _, fun p np => ⟨_, _, rfl, ?_⟩⟩⟩
  have npl : p ≠ l := fun e => by
    rw [e, upd_same] at np
    cases np
  have np0 : H p = none := by
    rw [upd_ne npl] at np
    exact np
  have nlg : l ≠ g := gen.ne nl
  have npg : p ≠ g := gen.ne np0
  refine while_by (fun σ H' => ∃ ls fs : List Int, σ = [some (.ref g), some (.ref t), some (.ref l), some (.ref p)] ∧ (fs ++ ls).Perm ns ∧ Keep g H H' ∧ H' l = some (.lst (ls.map V.int)) ∧ H' p = some (.lst (fs.map V.int)) ∧ Gen H' g (n + 3 * fs.length)) (fun _ H' => size H' l)
    ⟨ns, [], rfl, List.Perm.refl _, Keep.of_same ((same_new nl).trans (same_new np)), by rw [upd_ne npl.symm, upd_same], upd_same, by simpa using (gen.upd nlg.symm).upd npg.symm⟩ (fun σ H' hP => ?_) fun σ H' Q Q' h hc => ?_
  · obtain ⟨ls, fs, rfl, pm, kp, el, ep, gn⟩ := hP
    refine ⟨_, rfl, Nat.zero_le _, fun e ne => ?_⟩
    have nel : l ≠ e := ne_of_none el ne
    have nep : p ≠ e := ne_of_none ep ne
    have me := same_new ne (o := .lst [])
    refine ⟨_, .list [], .lst (SqL.of (me _ _ el)) (dp_ints ls), .lst (SqL.of upd_same) .nil, shaped_ints ls, by decide +kernel, ?_⟩
    cases ls with
    | nil =>
      refine ⟨false, rfl, ?_⟩
      rw [List.append_nil] at pm
      refine ⟨_, rfl, q p fs _ pm (kp.trans (Keep.of_same me)) np0 (me _ _ ep) ?_⟩
      rw [← pm.length_eq]
      exact gn.same me
    | cons y ys =>
      refine ⟨true, rfl, ?_⟩
      have hlen : (fs ++ y :: ys).length = ns.length := pm.length_eq
      rw [List.length_append, List.length_cons] at hlen
      refine ⟨_, rfl, .inl ⟨rfl, _, SqL.of (me _ _ ep)⟩, _, rfl, .inl ⟨rfl, _, SqL.of (me _ _ el)⟩, _, rfl, _, rfl, l, _, rfl, .inl (SqL.of (me _ _ el)), g, _, _, rfl, gn.same me, ?_, ?_, ?_, fun r H2 r0 r1 gn2 bt => ?_⟩
      · rw [List.length_map, List.length_cons]
        omega
      · rw [List.length_map, List.length_cons]
        omega
      · omega
      rw [List.length_map] at r1
      have hc : (y :: ys).length = ys.length + 1 := rfl
      have hk : r.toNat < (y :: ys).length := by omega
      have el2 : H2 l = some (.lst ((y :: ys).map V.int)) := (bt l nlg).trans (me _ _ el)
      have ep2 : H2 p = some (.lst (fs.map V.int)) := (bt p npg).trans (me _ _ ep)
      have eg : ((y :: ys).map V.int)[r.toNat]? = some (.int ((y :: ys)[r.toNat])) := by
        rw [List.getElem?_map, List.getElem?_eq_getElem hk]
        rfl
      refine ⟨l, _, r, r.toNat, _, rfl, rfl, el2, by omega, by omega, seq_at r0 (by rw [List.length_map]; exact r1), eg, ?_⟩
      refine ⟨p, _, _, rfl, rfl, by rw [upd_ne npl]; exact ep2, ?_, ?_⟩
      · rw [List.length_map]
        exact small1000 (by omega)
      have keep2 : Keep g H H2 := (kp.trans (Keep.of_same me)).trans (Keep.of_but bt)
      refine ⟨⟨(y :: ys).eraseIdx r.toNat, fs ++ [(y :: ys)[r.toNat]], rfl, ?_, fun b o nb eb => ?_, ?_, ?_, ?_⟩, ?_⟩
      · rw [List.append_assoc]
        exact (List.Perm.append_left fs (perm_erase (List.getElem?_eq_getElem hk))).trans pm
      · rw [upd_ne (ne_of_none eb np0), upd_ne (ne_of_none eb nl)]
        exact keep2 b o nb eb
      · rw [upd_ne npl.symm, upd_same, map_erase]
      · rw [upd_same, List.map_append]
        rfl
      · rw [List.length_append, List.length_singleton]
        exact ((gn2.upd nlg.symm).upd npg.symm).mono (by omega)
      · show size _ l < size _ l
        rw [size_of (show upd (upd H2 l _) p _ l = some (.lst _) by rw [upd_ne npl.symm, upd_same]), size_of el, List.length_eraseIdx, if_pos (by rw [List.length_map]; exact hk), List.length_map]
        omega
  · obtain ⟨v, e, l0, hp⟩ := hc
    exact ⟨v, e, l0, fun p hp' => let ⟨d, e', a1, a2, a3, a4, k, e5, z⟩ := hp p hp'; ⟨d, e', a1, a2, a3, a4, k, e5, h _ _ z⟩⟩
end
end DQ

namespace DQ
/-- one-to-one: no first twice, no second twice, all among the items -/
def OneToOne (ns : List Int) (ps : List (Int × Int)) : Prop := (ps.map (·.1)).Nodup ∧ (ps.map (·.2)).Nodup ∧ ∀ p ∈ ps, p.1 ∈ ns ∧ p.2 ∈ ns
theorem OneToOne.sub {ns : List Int} {ps qs : List (Int × Int)} (h : OneToOne ns qs) (s : ps.Sublist qs) : OneToOne ns ps :=
  ⟨(s.map (·.1)).nodup h.1, (s.map (·.2)).nodup h.2.1, fun p hp => h.2.2 p (s.subset hp)⟩
theorem zip_fst_sub : ∀ (l m : List Int), ((l.zip m).map (·.1)).Sublist l
  | [], m => by simp
  | x :: l, [] => by simp
  | x :: l, y :: m => by
    show (x :: (l.zip m).map (·.1)).Sublist (x :: l)
    exact (zip_fst_sub l m).cons₂ x
theorem zip_snd_sub : ∀ (l m : List Int), ((l.zip m).map (·.2)).Sublist m
  | [], m => by simp
  | x :: l, [] => by simp
  | x :: l, y :: m => by
    show (y :: (l.zip m).map (·.2)).Sublist (y :: m)
    exact (zip_snd_sub l m).cons₂ y
theorem oneToOne_zip {ns l m : List Int} (hl : l.Nodup) (hm : m.Nodup) (sl : ∀ x ∈ l, x ∈ ns) (sm : ∀ x ∈ m, x ∈ ns) : OneToOne ns (l.zip m) :=
  ⟨(zip_fst_sub l m).nodup hl, (zip_snd_sub l m).nodup hm, fun p hp => ⟨sl _ ((zip_fst_sub l m).subset (List.mem_map.mpr ⟨p, hp, rfl⟩)), sm _ ((zip_snd_sub l m).subset (List.mem_map.mpr ⟨p, hp, rfl⟩))⟩⟩
/-- no item twice, all of them in m -/
def Inj (l m : List Int) : Prop := l.Nodup ∧ ∀ x ∈ l, x ∈ m
theorem Inj.append {l1 l2 m1 m2 : List Int} (a : Inj l1 m1) (b : Inj l2 m2) (h : (m1 ++ m2).Nodup) : Inj (l1 ++ l2) (m1 ++ m2) := by
  refine ⟨List.nodup_append.mpr ⟨a.1, b.1, fun x hx y hy e => ?_⟩, fun x hx => ?_⟩
  · exact (List.nodup_append.mp h).2.2 x (a.2 x hx) y (b.2 y hy) e
  · rcases List.mem_append.mp hx with z | z
    · exact List.mem_append_left _ (a.2 x z)
    · exact List.mem_append_right _ (b.2 x z)
theorem ring_fst : ∀ (x : Int) (r : List Int), (((x :: r).zip r).map (·.1)) ++ [(x :: r).getLast (by simp)] = x :: r
  | x, [] => rfl
  | x, y :: r => by
    have ih := ring_fst y r
    show x :: ((((y :: r).zip r).map (·.1)) ++ [(x :: y :: r).getLast (by simp)]) = x :: y :: r
    rw [List.getLast_cons (by simp)]
    exact congrArg (x :: ·) ih
theorem ring_snd : ∀ (x : Int) (r : List Int), ((x :: r).zip r).map (·.2) = r
  | x, [] => rfl
  | x, y :: r => congrArg (y :: ·) (ring_snd y r)
/-- the links of one ring, open or closed -/
def ringOf (x : Int) (r : List Int) (closed : Bool) : List (Int × Int) := (x :: r).zip r ++ if closed = true then [((x :: r).getLast (by simp), x)] else []
theorem ring_inj {x : Int} {r : List Int} {closed : Bool} (h : (x :: r).Nodup) : Inj ((ringOf x r closed).map (·.1)) (x :: r) ∧ Inj ((ringOf x r closed).map (·.2)) (x :: r) := by
  unfold ringOf
  cases closed with
  | true =>
    rw [if_pos rfl, List.map_append, List.map_append]
    constructor
    · show Inj (((x :: r).zip r).map (·.1) ++ [(x :: r).getLast (by simp)]) (x :: r)
      rw [ring_fst]
      exact ⟨h, fun _ z => z⟩
    · show Inj (((x :: r).zip r).map (·.2) ++ [x]) (x :: r)
      rw [ring_snd]
      have pm : (r ++ [x]).Perm (x :: r) := List.perm_append_comm
      exact ⟨pm.nodup_iff.mpr h, fun y hy => pm.subset hy⟩
  | false =>
    rw [if_neg (by simp), List.append_nil]
    refine ⟨⟨(zip_fst_sub _ _).nodup h, fun y hy => (zip_fst_sub _ _).subset hy⟩, ?_⟩
    rw [ring_snd]
    exact ⟨(List.nodup_cons.mp h).2, fun y hy => List.mem_cons_of_mem _ hy⟩
theorem inj_oneToOne {ns ms : List Int} {ps : List (Int × Int)} (a : Inj (ps.map (·.1)) ms) (b : Inj (ps.map (·.2)) ms) (h : ∀ x ∈ ms, x ∈ ns) : OneToOne ns ps :=
  ⟨a.1, b.1, fun p hp => ⟨h _ (a.2 _ (List.mem_map.mpr ⟨p, hp, rfl⟩)), h _ (b.2 _ (List.mem_map.mpr ⟨p, hp, rfl⟩))⟩⟩
theorem zip_at {l m : List Int} {i : Nat} {a b : Int} (ha : l[i]? = some a) (hb : m[i]? = some b) : (l.zip m)[i]? = some (a, b) := by
  rw [List.getElem?_zip_eq_some]
  exact ⟨ha, hb⟩
theorem take_next {α : Type} {l : List α} {i : Nat} {x : α} (h : l[i]? = some x) : l.take (i + 1) = l.take i ++ [x] := by
  rw [List.take_add_one, h]
  rfl
theorem sub_skip {α : Type} {ps l : List α} {i : Nat} {x : α} (s : ps.Sublist (l.take i)) (h : l[i]? = some x) : ps.Sublist (l.take (i + 1)) := by
  rw [take_next h]
  exact s.trans (List.sublist_append_left _ _)
theorem sub_put {α : Type} {ps l : List α} {i : Nat} {x : α} (s : ps.Sublist (l.take i)) (h : l[i]? = some x) : (ps ++ [x]).Sublist (l.take (i + 1)) := by
  rw [take_next h]
  exact s.append (List.Sublist.refl _)
end DQ

set_option Elab.async false
set_option linter.all false
set_option maxRecDepth 100000
set_option maxHeartbeats 4000000
namespace DQ
open PySem PySem.Spec PyProof.Rows L2
abbrev sPairs : Stmt := topS 35
abbrev NP : List Str := ["generator", "items", "order", "way", "found", "other", "at", "width", "ring", "place"]
theorem scPairs : FnScope NP ["generator", "items"] (defScope sPairs) := ⟨rfl, rfl, rfl, by decide +kernel, rfl, by decide +kernel, by decide +kernel⟩
/-- the tuples that stand at a list's places -/
def Tups (H : Hp) (rs : List V) (ts : List (List V)) : Prop := Paired (fun (r : V) (t : List V) => ∃ a, r = .ref a ∧ H a = some (.tup t)) rs ts
def pairV (p : Int × Int) : List V := [.int p.1, .int p.2]
/-- tuples stay -/
def TupKeep (H H' : Hp) : Prop := ∀ a t, H a = some (.tup t) → H' a = some (.tup t)
theorem TupKeep.trans {H H1 H2 : Hp} (a : TupKeep H H1) (b : TupKeep H1 H2) : TupKeep H H2 := fun c t h => b c t (a c t h)
theorem tk_same {H H' : Hp} (s : Same H H') : TupKeep H H' := fun a t h => s a _ h
theorem tk_keep {g : Addr} {H H' : Hp} {n : Int} (k : Keep g H H') (G : Gen H g n) : TupKeep H H' := fun a t h => k a _ (fun e => by
  obtain ⟨x, y, z, eg, _⟩ := G
  rw [e, eg] at h
  cases h) h
theorem tk_lst {H : Hp} {D : Addr} {xs ys : List V} (h : H D = some (.lst xs)) : TupKeep H (upd H D (.lst ys)) := fun a t e => by
  rw [upd_ne (ne_of e h (by intro z; cases z))]
  exact e
theorem Tups.keep {H H' : Hp} (k : TupKeep H H') : ∀ {rs : List V} {ts : List (List V)}, Tups H rs ts → Tups H' rs ts
  | _, _, .nil => .nil
  | _, _, .cons ⟨a, e, h⟩ r => .cons ⟨a, e, k _ _ h⟩ (Tups.keep k r)
theorem Tups.put {H : Hp} {a : Addr} {t : List V} (e : H a = some (.tup t)) : ∀ {rs : List V} {ts : List (List V)}, Tups H rs ts → Tups H (rs ++ [.ref a]) (ts ++ [t])
  | _, _, .nil => .cons ⟨a, rfl, e⟩ .nil
  | _, _, .cons h r => .cons h (Tups.put e r)
theorem Tups.append {H : Hp} : ∀ {rs : List V} {ts : List (List V)} {rs' : List V} {ts' : List (List V)}, Tups H rs ts → Tups H rs' ts' → Tups H (rs ++ rs') (ts ++ ts')
  | _, _, _, _, .nil, s => s
  | _, _, _, _, .cons h r, s => .cons h (Tups.append r s)
theorem Keep.upd_new {g b : Addr} {H H' : Hp} {o : HO} (k : Keep g H H') (h : H b = none) : Keep g H (upd H' b o) := fun a x n e => by
  rw [upd_ne (ne_of_none e h)]
  exact k a x n e
theorem at_ints {ms : List Int} {i : Nat} {v : Int} (h : ms[i]? = some v) : atI (ms.map V.int) (0 + (i : Int)) = some (.int v) := by
  rw [Int.zero_add]
  refine atI_nat ?_
  rw [List.getElem?_map, h]
  rfl
theorem at_intsW {ms : List Int} {i w : Nat} {v x : Int} (hw : (w : Int) = x) (h : ms[i + w]? = some v) : atI (ms.map V.int) (0 + (i : Int) + x) = some (.int v) := by
  rw [Int.zero_add, ← hw, show (i : Int) + (w : Int) = ((i + w : Nat) : Int) by omega]
  refine atI_nat ?_
  rw [List.getElem?_map, h]
  rfl
theorem at_ints1 {ms : List Int} {i : Nat} {v : Int} (h : ms[i + 1]? = some v) : atI (ms.map V.int) (0 + (i : Int) + 1) = some (.int v) := at_intsW (w := 1) rfl h
theorem at_last {x : Int} {rr : List Int} : atI ((x :: rr).map V.int) (-1) = some (.int ((x :: rr).getLast (by simp))) := by
  have hl : ((x :: rr).map V.int).length = rr.length + 1 := by rw [List.length_map]; rfl
  have h1 : ixN (rr.length + 1) (-1) = some rr.length := by
    unfold ixN
    rw [if_neg (by decide), if_pos (by omega)]
    exact congrArg some (by omega)
  unfold atI
  rw [hl, h1]
  show ((x :: rr).map V.int)[rr.length]? = _
  rw [List.getElem?_map, List.getElem?_eq_getElem (show rr.length < (x :: rr).length from Nat.lt_succ_self _), List.getLast_eq_getElem]
  rfl
/-- where the walk over the order stands -/
def atOf (σ : L2.St) : Nat := match σ[6]? with
  | some (some (V.int k)) => k.toNat
  | _ => 0
/-- the next ring: at least one item -/
theorem cut_ring {ms : List Int} {k : Nat} {r : Int} (hk : k < ms.length) (h0 : 0 ≤ r) : ∃ x rr, cutV (ms.map V.int) (some (k : Int)) (some ((k : Int) + 1 + r)) = (x :: rr).map V.int ∧ k + (x :: rr).length ≤ ms.length ∧ ms.take k ++ (x :: rr) = ms.take (k + (x :: rr).length) := by
  have e1 : (k : Int) + 1 + r = ((k + 1 + r.toNat : Nat) : Int) := by omega
  have e2 : cutV (ms.map V.int) (some (k : Int)) (some ((k : Int) + 1 + r)) = ((ms.drop k).take (min (k + 1 + r.toNat) ms.length - k)).map V.int := by
    unfold cutV
    rw [e1, show HT.sIx (ms.map V.int).length 0 (some (k : Int)) = min k (ms.map V.int).length from HT.sIx_nat _ 0 k, show HT.sIx (ms.map V.int).length (ms.map V.int).length (some ((k + 1 + r.toNat : Nat) : Int)) = min (k + 1 + r.toNat) (ms.map V.int).length from HT.sIx_nat _ _ _, List.length_map, Nat.min_eq_left (Nat.le_of_lt hk), ← List.map_drop, ← List.map_take]
  rw [e2]
  cases q : (ms.drop k).take (min (k + 1 + r.toNat) ms.length - k) with
  | nil =>
    have z := congrArg List.length q
    rw [List.length_take, List.length_drop, List.length_nil] at z
    omega
  | cons x rr =>
    have z := congrArg List.length q
    rw [List.length_take, List.length_drop] at z
    have z2 : (x :: rr).length = min (k + 1 + r.toNat) ms.length - k := by omega
    refine ⟨x, rr, rfl, by omega, ?_⟩
    rw [List.take_add, z2, q]
section
variable {P : Program} {w : World} {K : PySem.W.Frag} {mg : Str → Option Value} {base : Heap}
def spPairs (K : PySem.W.Frag) : Sp := fun vs H Q _ => ∃ (g t : Addr) (ns : List Int) (n : Int), vs = [.ref g, .ref t] ∧ SqL K H t (ns.map V.int) ∧ t ≠ g ∧ ns.Nodup ∧ Gen H g n ∧ ns.length ≤ 100 ∧ n + 20 * ns.length + 100 ≤ 1073741824 ∧
  ∀ (p : Addr) (rs : List V) (ps : List (Int × Int)) (H' : Hp), OneToOne ns ps → Keep g H H' → H p = none → H' p = some (.lst rs) → Tups H' rs (ps.map pairV) → Gen H' g (n + 20 * ns.length + 100) → Q (.ref p) H'
theorem ok_pairs {f fo fr : Addr} {fd fdo fdr : FuncData} (F : Fun K "_law_drawn_pairs" "_law_drawn_pairs" sPairs f fd)
    (GO : FnOk P w K mg base CX0 3 fo fdo ["generator", "things"] (spOrder K)) (bO : Binds K fdo ["generator", "things"] []) (kO : PySem.W.keepIn K (.ref fo) = true) (mO : mg "_law_drawn_order" = some (.ref fo))
    (GR : FnOk P w K mg base CX0 2 fr fdr ["generator", "bound"] spRandom) (bR : Binds K fdr ["generator", "bound"] []) (kR : PySem.W.keepIn K (.ref fr) = true) (mR : mg "_law_random" = some (.ref fr))
    (mLen : mg "len" = none) (mRange : mg "range" = none) : FnOk P w K mg base CX0 4 f fd ["generator", "items"] (spPairs K) := by
  refine F.ok scPairs (fun vs H Q E h => ?_) (fun cdv A outer s H vs Q E hr h => ?_)
  · obtain ⟨g, t, ns, n, rfl, _⟩ := h
    rfl
  obtain ⟨g, t, ns, n, rfl, L, ntg, nod, gen, h100, hn, q⟩ := h
  have nd := scPairs.nd
  refine ⟨_, (pss_cons (ps_asg (pe_tup (pa_cons (pe_call GO (hr.mono (by decide)) rfl mO kO bO .nil pass0 (pa_cons (pv 0) (pa_cons (pv 1) pa_nil))) (pa_cons (pe_call GR (hr.mono (by decide)) rfl mR kR bR .nil pass0 (pa_cons (pv 0) (pa_cons pe_int pa_nil))) (pa_cons (pe_lst pa_nil) pa_nil)))) (pg_tup rfl (pgs_cons (pg_name (i := 2) nd rfl (.inr rfl)) (pgs_cons (pg_name (i := 3) nd rfl (.inl rfl)) (pgs_cons (pg_name (i := 4) nd rfl (.inl rfl)) pgs_nil)))))
    (pss_cons (ps_if (pt_cmpR op_eq (pv 3) pe_int (nomark _)) (pss_cons (ps_set (i := 5) nd rfl (.inr rfl) (pe_call GO (hr.mono (by decide)) rfl mO kO bO .nil pass0 (pa_cons (pv 0) (pa_cons (pv 1) pa_nil)))) (pss_one (ps_ret (pe_lc (own := [("at", 6)]) (g := gName 6) rfl nd (pi_range1 (by rfl) mRange (pa_cons (pe_callB call_len_seq (by rfl) mLen PySem.boot_len (pa_cons (pv 2) pa_nil)) pa_nil)) (blkOk_by (own := [("at", 6)]) (N := NP) (sc := defScope sPairs) (by decide +kernel)) (fun _ _ _ _ _ => pg_name (i := 6) nd rfl (Or.inl rfl)) (fun _ _ _ _ _ => pts_one (pt_cmpR op_gt (pe_call GR (hr.mono (by decide)) rfl mR kR bR .nil pass0 (pa_cons (pv 0) (pa_cons pe_int pa_nil))) pe_int (nomark _))) (fun _ _ _ _ _ => (pe_tup (pa_cons (pe_ix (r := rIxL K) ix_list (pv 2) (pv 6) (fun _ _ => rfl)) (pa_cons (pe_ix (r := rIxL K) ix_list (pv 5) (pv 6) (fun _ _ => rfl)) pa_nil)))))))) pss_nil)
    (pss_cons (ps_if (pt_cmpR op_eq (pv 3) pe_int (nomark _)) (pss_one (ps_ret (pe_lc (own := [("at", 6)]) (g := gName 6) rfl nd (pi_range1 (by rfl) mRange (pa_cons (pe_op op_sub (pe_callB call_len_seq (by rfl) mLen PySem.boot_len (pa_cons (pv 2) pa_nil)) pe_int) pa_nil)) (blkOk_by (own := [("at", 6)]) (N := NP) (sc := defScope sPairs) (by decide +kernel)) (fun _ _ _ _ _ => pg_name (i := 6) nd rfl (Or.inl rfl)) (fun _ _ _ _ _ => pts_one (pt_cmpR op_gt (pe_call GR (hr.mono (by decide)) rfl mR kR bR .nil pass0 (pa_cons (pv 0) (pa_cons pe_int pa_nil))) pe_int (nomark _))) (fun _ _ _ _ _ => (pe_tup (pa_cons (pe_ix (r := rIxL K) ix_list (pv 2) (pv 6) (fun _ _ => rfl)) (pa_cons (pe_ix (r := rIxL K) ix_list (pv 2) (pe_op op_add (pv 6) pe_int) (fun _ _ => rfl)) pa_nil))))))) pss_nil)
    (pss_cons (ps_if (pt_cmpR op_eq (pv 3) pe_int (nomark _)) (pss_cons (ps_set (i := 7) nd rfl (.inr rfl) (pe_op op_add pe_int (pe_call GR (hr.mono (by decide)) rfl mR kR bR .nil pass0 (pa_cons (pv 0) (pa_cons pe_int pa_nil))))) (pss_one (ps_ret (pe_lc (own := [("at", 6)]) (g := gName 6) (tt := tYes) rfl nd (pi_range1 (by rfl) mRange (pa_cons (pe_op op_sub (pe_callB call_len_seq (by rfl) mLen PySem.boot_len (pa_cons (pv 1) pa_nil)) (pv 7)) pa_nil)) (blkOk_by (own := [("at", 6)]) (N := NP) (sc := defScope sPairs) (by decide +kernel)) (fun _ _ _ _ _ => pg_name (i := 6) nd rfl (Or.inl rfl)) (fun _ _ _ _ _ => pts_nil) (fun _ _ _ _ _ => (pe_tup (pa_cons (pe_ix (r := rIxL K) ix_list (pv 1) (pv 6) (fun _ _ => rfl)) (pa_cons (pe_ix (r := rIxL K) ix_list (pv 1) (pe_op op_add (pv 6) (pv 7)) (fun _ _ => rfl)) pa_nil)))))))) pss_nil)
    (pss_cons (ps_set (i := 6) nd rfl (.inl rfl) pe_int)
    (pss_cons (ps_while PassesOwn.never (pt_cmpR op_lt (pv 6) (pe_callB call_len_seq (by rfl) mLen PySem.boot_len (pa_cons (pv 2) pa_nil)) (nomark _)) (pss_cons (ps_set (i := 8) nd rfl (.inr rfl) (pe_slice sl_list (pv 2) (po_some (pv 6)) (po_some (pe_op op_add (pe_op op_add (pv 6) pe_int) (pe_call GR (hr.mono (by decide)) rfl mR kR bR .nil pass0 (pa_cons (pv 0) (pa_cons pe_int pa_nil)))))))
      (pss_cons (ps_set (i := 4) nd rfl (.inl rfl) (pe_op op_cat (pv 4) (pe_lc (own := [("place", 9)]) (g := gName 9) (tt := tYes) rfl nd (pi_range1 (by rfl) mRange (pa_cons (pe_op op_sub (pe_callB call_len_seq (by rfl) mLen PySem.boot_len (pa_cons (pv 8) pa_nil)) pe_int) pa_nil)) (blkOk_by (own := [("place", 9)]) (N := NP) (sc := defScope sPairs) (by decide +kernel)) (fun _ _ _ _ _ => pg_name (i := 9) nd rfl (Or.inl rfl)) (fun _ _ _ _ _ => pts_nil) (fun _ _ _ _ _ => (pe_tup (pa_cons (pe_ix (r := rIxL K) ix_list (pv 8) (pv 9) (fun _ _ => rfl)) (pa_cons (pe_ix (r := rIxL K) ix_list (pv 8) (pe_op op_add (pv 9) pe_int) (fun _ _ => rfl)) pa_nil)))))))
      (pss_cons (ps_if (PW.pt (pw_or (pt_cmpR op_eq (pv 3) pe_int (nomark _)) (pw_or1 (pt_cmpR op_eq (pe_call GR (hr.mono (by decide)) rfl mR kR bR .nil pass0 (pa_cons (pv 0) (pa_cons pe_int pa_nil))) pe_int (nomark _))))) (pss_one (ps_expr (pe_bm PySem.F.plainAttrs_list PySem.F.slot_list_append PySem.F.type_list_append mt_append (pv 4) (pa_cons (pe_tup (pa_cons (pe_ix (r := rIxL K) ix_list (pv 8) (pe_un un_neg pe_int) (fun _ _ => rfl)) (pa_cons (pe_ix (r := rIxL K) ix_list (pv 8) pe_int (fun _ _ => rfl)) pa_nil))) pa_nil)))) pss_nil)
      (pss_one (ps_set (i := 6) nd rfl (.inl rfl) (pe_op op_add (pv 6) (pe_callB call_len_seq (by rfl) mLen PySem.boot_len (pa_cons (pv 8) pa_nil)))))))))
    (pss_one (ps_ret (pv 4))))))))), ?_⟩
  refine ⟨_, rfl, _, rfl, g, t, ns, n, rfl, L, ntg, gen, h100, by omega, fun p0 ms H1 pm k1 n0 e0 gen1 => ?_⟩
  refine ⟨_, rfl, g, 5, _, rfl, gen1, by decide, by decide, by omega, fun way H2 w0 w1 gen2 b2 => ?_⟩
  refine ⟨Nat.zero_le _, fun p1 n1 => ⟨by show 3 ≤ sizeLine; decide, fun p2 n2 => ?_⟩⟩
  have m1 := same_new n1 (o := .lst [])
  have e1 : upd H2 p1 (.lst []) p1 = some (.lst []) := upd_same
  generalize upd H2 p1 (.lst []) = H3 at m1 e1 n2 ⊢
  have m2 := same_new n2 (o := .tup [.ref p0, .int way, .ref p1])
  have e2 : upd H3 p2 (.tup [.ref p0, .int way, .ref p1]) p2 = some (.tup [.ref p0, .int way, .ref p1]) := upd_same
  generalize upd H3 p2 (.tup [.ref p0, .int way, .ref p1]) = H4 at m2 e2 ⊢
  refine ⟨p2, [.ref p0, .int way, .ref p1], rfl, .inl (.inl e2), rfl, _, _, rfl, _, _, rfl, _, _, rfl, rfl, ?_⟩
  have np0g : p0 ≠ g := gen.ne n0
  have k4 : Keep g H H4 := (k1.trans (Keep.of_but b2)).trans (Keep.of_same (m1.trans m2))
  have gen4 := (gen2.same m1).same m2
  have o4 : H4 p0 = some (.lst (ms.map V.int)) := m2 _ _ (m1 _ _ ((b2 p0 np0g).trans e0))
  have f4 := m2 _ _ e1
  have L4 : SqL K H4 t (ns.map V.int) := k4.seq ntg L
  have nodm : ms.Nodup := pm.nodup_iff.mpr nod
  have subm : ∀ x ∈ ms, x ∈ ns := fun x hx => pm.subset hx
  have lenm : ms.length = ns.length := pm.length_eq
  have p1free : H p1 = none := by
    refine Keep.free (k1.trans (Keep.of_but b2)) gen.at n1 gen2.at
  -- way == 0
  refine ⟨_, rfl, rfl, _, rfl, ite2 (fun c => ?_) fun c => ?_⟩
  · refine ⟨_, rfl, _, rfl, g, t, ns, _, rfl, L4, ntg, gen4, h100, by omega, fun p5 os H5 pm5 k5 n5 e5 gen5 => ?_⟩
    have o5 : H5 p0 = some (.lst (ms.map V.int)) := k5 _ _ np0g o4
    have np5g : p5 ≠ g := gen4.ne n5
    have leno : os.length = ns.length := pm5.length_eq
    have hm : (((ms.map V.int).length : Nat) : Int).toNat = ms.length := by rw [List.length_map]; omega
    refine ⟨_, rfl, p0, _, rfl, .inl (SqL.of o5), _, rfl, by rw [List.length_map]; omega, by rw [List.length_map]; omega, fun D nD => lc_range (lo := 0) (n := (((ms.map V.int).length : Nat) : Int).toNat) (fun k H' => ∃ (ps : List (Int × Int)) (rs : List V), H' D = some (.lst rs) ∧ rs.length ≤ k ∧ Tups H' rs (ps.map pairV) ∧ ps.Sublist ((ms.zip os).take k) ∧ Keep g H5 H' ∧ Gen H' g (n + 3 * ns.length + 3 + 3 * ns.length + 3 * k))
      ⟨[], [], upd_same, Nat.le_refl _, .nil, List.nil_sublist _, Keep.of_same (same_new nD), (gen5.same (same_new nD)).mono (by omega)⟩ (fun k H' hk hP => ?_) fun H' hP => ?_⟩
    · obtain ⟨ps, rs, eD, hl, tp, sb, kp, gn⟩ := hP
      rw [hm] at hk
      have nDg : D ≠ g := gen5.ne nD
      have ga : ms[k]? = some ms[k] := List.getElem?_eq_getElem hk
      have gb : os[k]? = some (os[k]'(by omega)) := List.getElem?_eq_getElem (by omega)
      have gz := zip_at ga gb
      refine ⟨rfl, _, rfl, g, 3, _, rfl, gn, by decide, by decide, by omega, fun r H6 r0 r1 gn6 bt => ⟨_, _, rfl, rfl, _, rfl, ite2 (fun c2 => ?_) fun c2 => ?_⟩⟩
      · have kp6 : Keep g H5 H6 := kp.trans (Keep.of_but bt)
        have eD6 : H6 D = some (.lst rs) := (bt D nDg).trans eD
        refine ⟨_, rfl, _, rfl, p0, _, _, _, rfl, rfl, SqL.of (kp6 _ _ np0g o5), at_ints ga, _, rfl, _, rfl, p5, _, _, _, rfl, rfl, SqL.of (kp6 _ _ np5g e5), at_ints gb, by show 2 ≤ sizeLine; decide, fun T nT => ?_⟩
        have mT := same_new nT (o := .tup [.int ms[k], .int (os[k]'(by omega))])
        have eT : upd H6 T (.tup [.int ms[k], .int (os[k]'(by omega))]) T = some (.tup [.int ms[k], .int (os[k]'(by omega))]) := upd_same
        generalize upd H6 T (.tup [.int ms[k], .int (os[k]'(by omega))]) = H7 at mT eT ⊢
        have eD7 := mT _ _ eD6
        refine ⟨rs, eD7, small1000 (by omega), ps ++ [(ms[k], os[k]'(by omega))], rs ++ [.ref T], upd_same, ?_, ?_, sub_put sb gz, ?_, ?_⟩
        · rw [List.length_append, List.length_singleton]
          omega
        · rw [List.map_append]
          exact (Tups.put eT ((tp.keep (tk_keep (Keep.of_but bt) gn)).keep (tk_same mT))).keep (tk_lst eD7)
        · exact (kp6.trans (Keep.of_same mT)).upd_new nD
        · exact ((gn6.same mT).upd nDg.symm).mono (by omega)
      · exact ⟨ps, rs, (bt D nDg).trans eD, by omega, tp.keep (tk_keep (Keep.of_but bt) gn), sub_skip sb gz, kp.trans (Keep.of_but bt), gn6.mono (by omega)⟩
    · obtain ⟨ps, rs, eD, hl, tp, sb, kp, gn⟩ := hP
      rw [hm] at sb gn
      have nD4 : H4 D = none := Keep.free k5 gen4.at nD gen5.at
      have nD0 : H D = none := Keep.free k4 gen.at nD4 gen4.at
      exact q D rs ps H' ((oneToOne_zip nodm (pm5.nodup_iff.mpr nod) subm (fun x hx => pm5.subset hx)).sub (sb.trans (List.take_sublist _ _))) ((k4.trans k5).trans kp) nD0 eD tp (gn.mono (by omega))
  -- way == 1
  refine ⟨_, rfl, rfl, _, rfl, ite2 (fun c => ?_) fun c => ?_⟩
  · have hm : ((((ms.map V.int).length : Nat) : Int) - 1).toNat = ms.length - 1 := by rw [List.length_map]; omega
    refine ⟨_, rfl, p0, _, rfl, .inl (SqL.of o4), _, _, rfl, rfl, _, rfl, by rw [List.length_map]; omega, by rw [List.length_map]; omega, fun D nD => lc_range (lo := 0) (n := ((((ms.map V.int).length : Nat) : Int) - 1).toNat) (fun k H' => ∃ (ps : List (Int × Int)) (rs : List V), H' D = some (.lst rs) ∧ rs.length ≤ k ∧ Tups H' rs (ps.map pairV) ∧ ps.Sublist ((ms.zip (ms.drop 1)).take k) ∧ Keep g H4 H' ∧ Gen H' g (n + 3 * ns.length + 3 + 3 * k))
      ⟨[], [], upd_same, Nat.le_refl _, .nil, List.nil_sublist _, Keep.of_same (same_new nD), (gen4.same (same_new nD)).mono (by omega)⟩ (fun k H' hk hP => ?_) fun H' hP => ?_⟩
    · obtain ⟨ps, rs, eD, hl, tp, sb, kp, gn⟩ := hP
      rw [hm] at hk
      have nDg : D ≠ g := gen4.ne nD
      have ga : ms[k]? = some (ms[k]'(by omega)) := List.getElem?_eq_getElem (by omega)
      have gb : ms[k + 1]? = some (ms[k + 1]'(by omega)) := List.getElem?_eq_getElem (by omega)
      have gb' : (ms.drop 1)[k]? = some (ms[k + 1]'(by omega)) := by rw [List.getElem?_drop, Nat.add_comm]; exact gb
      have gz := zip_at ga gb'
      refine ⟨rfl, _, rfl, g, 6, _, rfl, gn, by decide, by decide, by omega, fun r H6 r0 r1 gn6 bt => ⟨_, _, rfl, rfl, _, rfl, ite2 (fun c2 => ?_) fun c2 => ?_⟩⟩
      · have kp6 : Keep g H4 H6 := kp.trans (Keep.of_but bt)
        have eD6 : H6 D = some (.lst rs) := (bt D nDg).trans eD
        refine ⟨_, rfl, _, rfl, p0, _, _, _, rfl, rfl, SqL.of (kp6 _ _ np0g o4), at_ints ga, _, rfl, _, rfl, _, _, rfl, rfl, p0, _, _, _, rfl, rfl, SqL.of (kp6 _ _ np0g o4), at_ints1 gb, by show 2 ≤ sizeLine; decide, fun T nT => ?_⟩
        have mT := same_new nT (o := .tup [.int (ms[k]'(by omega)), .int (ms[k + 1]'(by omega))])
        have eT : upd H6 T (.tup [.int (ms[k]'(by omega)), .int (ms[k + 1]'(by omega))]) T = some (.tup [.int (ms[k]'(by omega)), .int (ms[k + 1]'(by omega))]) := upd_same
        generalize upd H6 T (.tup [.int (ms[k]'(by omega)), .int (ms[k + 1]'(by omega))]) = H7 at mT eT ⊢
        have eD7 := mT _ _ eD6
        refine ⟨rs, eD7, small1000 (by omega), ps ++ [(ms[k]'(by omega), ms[k + 1]'(by omega))], rs ++ [.ref T], upd_same, ?_, ?_, sub_put sb gz, ?_, ?_⟩
        · rw [List.length_append, List.length_singleton]
          omega
        · rw [List.map_append]
          exact (Tups.put eT ((tp.keep (tk_keep (Keep.of_but bt) gn)).keep (tk_same mT))).keep (tk_lst eD7)
        · exact (kp6.trans (Keep.of_same mT)).upd_new nD
        · exact ((gn6.same mT).upd nDg.symm).mono (by omega)
      · exact ⟨ps, rs, (bt D nDg).trans eD, by omega, tp.keep (tk_keep (Keep.of_but bt) gn), sub_skip sb gz, kp.trans (Keep.of_but bt), gn6.mono (by omega)⟩
    · obtain ⟨ps, rs, eD, hl, tp, sb, kp, gn⟩ := hP
      rw [hm] at sb gn
      have nD0 : H D = none := Keep.free k4 gen.at nD gen4.at
      exact q D rs ps H' ((oneToOne_zip nodm ((List.drop_sublist 1 ms).nodup nodm) subm (fun x hx => subm x ((List.drop_sublist 1 ms).subset hx))).sub (sb.trans (List.take_sublist _ _))) (k4.trans kp) nD0 eD tp (gn.mono (by omega))
  -- way == 2
  refine ⟨_, rfl, rfl, _, rfl, ite2 (fun c => ?_) fun c => ?_⟩
  · refine ⟨_, rfl, g, 4, _, rfl, gen4, by decide, by decide, by omega, fun r H5 r0 r1 gen5 b5 => ⟨_, _, rfl, rfl, ?_⟩⟩
    have k5 : Keep g H4 H5 := Keep.of_but b5
    have L5 : SqL K H5 t (ns.map V.int) := k5.seq ntg L4
    have hm : ((((ns.map V.int).length : Nat) : Int) - (1 + r)).toNat = ns.length - (1 + r).toNat := by rw [List.length_map]; omega
    refine ⟨_, rfl, t, _, rfl, .inl L5, _, rfl, _, _, rfl, rfl, _, rfl, by rw [List.length_map]; omega, by rw [List.length_map]; omega, fun D nD => lc_range (lo := 0) (n := ((((ns.map V.int).length : Nat) : Int) - (1 + r)).toNat) (fun k H' => ∃ (ps : List (Int × Int)) (rs : List V), H' D = some (.lst rs) ∧ rs.length ≤ k ∧ Tups H' rs (ps.map pairV) ∧ ps.Sublist ((ns.zip (ns.drop (1 + r).toNat)).take k) ∧ Keep g H5 H' ∧ Gen H' g (n + 3 * ns.length + 6))
      ⟨[], [], upd_same, Nat.le_refl _, .nil, List.nil_sublist _, Keep.of_same (same_new nD), (gen5.same (same_new nD)).mono (by omega)⟩ (fun k H' hk hP => ?_) fun H' hP => ?_⟩
    · obtain ⟨ps, rs, eD, hl, tp, sb, kp, gn⟩ := hP
      rw [hm] at hk
      have nDg : D ≠ g := gen5.ne nD
      have hw : (((1 + r).toNat : Nat) : Int) = 1 + r := by omega
      have ga : ns[k]? = some (ns[k]'(by omega)) := List.getElem?_eq_getElem (by omega)
      have gb : ns[k + (1 + r).toNat]? = some (ns[k + (1 + r).toNat]'(by omega)) := List.getElem?_eq_getElem (by omega)
      have gb' : (ns.drop (1 + r).toNat)[k]? = some (ns[k + (1 + r).toNat]'(by omega)) := by rw [List.getElem?_drop, Nat.add_comm]; exact gb
      have gz := zip_at ga gb'
      refine ⟨rfl, _, rfl, _, rfl, t, _, _, _, rfl, rfl, kp.seq ntg L5, at_ints ga, _, rfl, _, rfl, _, rfl, _, _, rfl, rfl, t, _, _, _, rfl, rfl, kp.seq ntg L5, at_intsW hw gb, by show 2 ≤ sizeLine; decide, fun T nT => ?_⟩
      have mT := same_new nT (o := .tup [.int (ns[k]'(by omega)), .int (ns[k + (1 + r).toNat]'(by omega))])
      have eT : upd H' T (.tup [.int (ns[k]'(by omega)), .int (ns[k + (1 + r).toNat]'(by omega))]) T = some (.tup [.int (ns[k]'(by omega)), .int (ns[k + (1 + r).toNat]'(by omega))]) := upd_same
      generalize upd H' T (.tup [.int (ns[k]'(by omega)), .int (ns[k + (1 + r).toNat]'(by omega))]) = H7 at mT eT ⊢
      have eD7 := mT _ _ eD
      refine ⟨rs, eD7, small1000 (by omega), ps ++ [(ns[k]'(by omega), ns[k + (1 + r).toNat]'(by omega))], rs ++ [.ref T], upd_same, ?_, ?_, sub_put sb gz, ?_, ?_⟩
      · rw [List.length_append, List.length_singleton]
        omega
      · rw [List.map_append]
        exact (Tups.put eT (tp.keep (tk_same mT))).keep (tk_lst eD7)
      · exact (kp.trans (Keep.of_same mT)).upd_new nD
      · exact (gn.same mT).upd nDg.symm
    · obtain ⟨ps, rs, eD, hl, tp, sb, kp, gn⟩ := hP
      have nD4 : H4 D = none := Keep.free k5 gen4.at nD gen5.at
      have nD0 : H D = none := Keep.free k4 gen.at nD4 gen4.at
      exact q D rs ps H' ((oneToOne_zip nod ((List.drop_sublist _ ns).nodup nod) (fun _ z => z) (fun x hx => (List.drop_sublist _ ns).subset hx)).sub (sb.trans (List.take_sublist _ _))) ((k4.trans k5).trans kp) nD0 eD tp (gn.mono (by omega))
  -- at = 0
  refine while_by (fun σ H' => ∃ (k : Nat) (pf : Addr) (ps : List (Int × Int)) (rs : List V) (y : Option V), σ = [some (.ref g), some (.ref t), some (.ref p0), some (.int way), some (.ref pf), none, some (.int k), none, y, none] ∧ k ≤ ms.length ∧ H pf = none ∧ H' pf = some (.lst rs) ∧ rs.length ≤ 2 * k ∧ Tups H' rs (ps.map pairV) ∧ Inj (ps.map (·.1)) (ms.take k) ∧ Inj (ps.map (·.2)) (ms.take k) ∧ Keep g H4 H' ∧ Gen H' g (n + 3 * ns.length + 3 + 6 * k)) (fun σ _ => ms.length - atOf σ)
    ⟨0, p1, [], [], none, rfl, Nat.zero_le _, p1free, f4, Nat.le_refl _, .nil, ⟨List.nodup_nil, fun _ h => by cases h⟩, ⟨List.nodup_nil, fun _ h => by cases h⟩, Keep.refl g H4, gen4.mono (by omega)⟩ (fun σ H' hP => ?_) fun σ H' Q Q' h hc => ?_
  · obtain ⟨k, pf, ps, rs, y, rfl, hk, npf, ef, hl, tp, j1, j2, kp, gn⟩ := hP
    have o5 : H' p0 = some (.lst (ms.map V.int)) := kp _ _ np0g o4
    refine ⟨_, rfl, _, rfl, p0, _, rfl, .inl (SqL.of o5), _, _, rfl, rfl, _, rfl, ite2 (fun c => ?_) fun c => ?_⟩
    · have hk' : k < ms.length := by
        have z := of_decide_eq_true c
        rw [List.length_map] at z
        omega
      refine ⟨_, rfl, _, rfl, _, rfl, _, rfl, _, _, rfl, rfl, _, rfl, g, 5, _, rfl, gn, by decide, by decide, by omega, fun r H6 r0 r1 gn6 b6 => ⟨_, _, rfl, rfl, _, rfl, p0, _, rfl, SqL.of ((b6 p0 np0g).trans o5), fun pr nr => ?_⟩⟩
      obtain ⟨x, rr, er, hr2, htk⟩ := cut_ring (r := r) hk' r0
      have k6 : Keep g H4 H6 := kp.trans (Keep.of_but b6)
      rw [er]
      have npr0 : pr ≠ g := gn6.ne nr
      have mr := same_new nr (o := .lst ((x :: rr).map V.int))
      have er7 : upd H6 pr (.lst ((x :: rr).map V.int)) pr = some (.lst ((x :: rr).map V.int)) := upd_same
      generalize upd H6 pr (.lst ((x :: rr).map V.int)) = H7 at mr er7 ⊢
      have k7 : Keep g H4 H7 := k6.trans (Keep.of_same mr)
      have gn7 := gn6.same mr
      have pfg : pf ≠ g := gen.ne npf
      have ef7 : H7 pf = some (.lst rs) := mr _ _ ((b6 pf pfg).trans ef)
      have tp7 := (tp.keep (tk_keep (Keep.of_but b6) gn)).keep (tk_same mr)
      have hlr : (x :: rr).length = rr.length + 1 := rfl
      have hm : (((((x :: rr).map V.int).length : Nat) : Int) - 1).toNat = rr.length := by rw [List.length_map]; omega
      -- found = found + [..]
      refine ⟨_, rfl, _, rfl, pr, _, rfl, .inl (SqL.of er7), _, _, rfl, rfl, _, rfl, by rw [List.length_map]; omega, by rw [List.length_map]; omega, fun D nD => lc_range (lo := 0) (n := (((((x :: rr).map V.int).length : Nat) : Int) - 1).toNat) (fun j H' => ∃ (rs' : List V), H' D = some (.lst rs') ∧ rs'.length ≤ j ∧ Tups H' rs' ((((x :: rr).zip rr).take j).map pairV) ∧ Keep g H7 H' ∧ Gen H' g (n + 3 * ns.length + 3 + 6 * k + 3))
        ⟨[], upd_same, Nat.le_refl _, .nil, Keep.of_same (same_new nD), gn7.same (same_new nD)⟩ (fun j H' hj hP => ?_) fun H8 hP => ?_⟩
      · obtain ⟨rs', eD, hl', tp', kp', gn'⟩ := hP
        rw [hm] at hj
        have nDg : D ≠ g := gn7.ne nD
        have ga : (x :: rr)[j]? = some ((x :: rr)[j]'(by omega)) := List.getElem?_eq_getElem (by omega)
        have gb : (x :: rr)[j + 1]? = some (rr[j]'hj) := by rw [List.getElem?_cons_succ]; exact List.getElem?_eq_getElem hj
        have gz := zip_at ga (List.getElem?_eq_getElem hj)
        refine ⟨rfl, _, rfl, _, rfl, pr, _, _, _, rfl, rfl, SqL.of (kp' _ _ npr0 er7), at_ints ga, _, rfl, _, rfl, _, _, rfl, rfl, pr, _, _, _, rfl, rfl, SqL.of (kp' _ _ npr0 er7), at_ints1 gb, by show 2 ≤ sizeLine; decide, fun T nT => ?_⟩
        have mT := same_new nT (o := .tup [.int ((x :: rr)[j]'(by omega)), .int (rr[j]'hj)])
        have eT : upd H' T (.tup [.int ((x :: rr)[j]'(by omega)), .int (rr[j]'hj)]) T = some (.tup [.int ((x :: rr)[j]'(by omega)), .int (rr[j]'hj)]) := upd_same
        generalize upd H' T (.tup [.int ((x :: rr)[j]'(by omega)), .int (rr[j]'hj)]) = H9 at mT eT ⊢
        have eD9 := mT _ _ eD
        refine ⟨rs', eD9, small1000 (by omega), rs' ++ [.ref T], upd_same, ?_, ?_, (kp'.trans (Keep.of_same mT)).upd_new nD, (gn'.same mT).upd nDg.symm⟩
        · rw [List.length_append, List.length_singleton]
          omega
        · rw [take_next gz, List.map_append]
          exact (Tups.put eT (tp'.keep (tk_same mT))).keep (tk_lst eD9)
      obtain ⟨rs', eD, hl', tp', kp', gn'⟩ := hP
      rw [hm] at hl' tp'
      rw [List.take_of_length_le (by rw [List.length_zip]; omega)] at tp'
      have npD : pf ≠ D := ne_of_none ef7 nD
      have ef8 := kp' _ _ pfg ef7
      refine ⟨pf, D, _, _, rfl, rfl, ef8, eD, Nat.le_trans (show rs.length + rs'.length ≤ 1000 by omega) (by decide), fun p7 n7 => ?_⟩
      have m7 := same_new n7 (o := .lst (rs ++ rs'))
      have e7 : upd H8 p7 (.lst (rs ++ rs')) p7 = some (.lst (rs ++ rs')) := upd_same
      generalize upd H8 p7 (.lst (rs ++ rs')) = H9 at m7 e7 ⊢
      have k9 : Keep g H4 H9 := (k7.trans kp').trans (Keep.of_same m7)
      have gn9 := gn'.same m7
      have tp9 : Tups H9 (rs ++ rs') ((ps ++ (x :: rr).zip rr).map pairV) := by
        rw [List.map_append]
        exact (Tups.append (tp7.keep (tk_keep kp' gn7)) tp').keep (tk_same m7)
      have er9 : H9 pr = some (.lst ((x :: rr).map V.int)) := m7 _ _ (kp' _ _ npr0 er7)
      have n74 : H4 p7 = none := Keep.free (k7.trans kp') gen4.at n7 gn'.at
      have n70 : H p7 = none := Keep.free k4 gen.at n74 gen4.at
      have n7g : p7 ≠ g := gen.ne n70
      have nodx : (ms.take k ++ (x :: rr)).Nodup := by
        rw [htk]
        exact (List.take_sublist _ _).nodup nodm
      have nodr : (x :: rr).Nodup := (List.nodup_append.mp nodx).2.1
      -- the turn's end
      have fin : ∀ (cl : Bool) (rs8 : List V) (H8 : Hp), H8 p7 = some (.lst rs8) → rs8.length ≤ 2 * (k + (x :: rr).length) → Tups H8 rs8 ((ps ++ ringOf x rr cl).map pairV) → Keep g H4 H8 → Gen H8 g (n + 3 * ns.length + 3 + 6 * k + 6) →
          ∃ (k' : Nat) (pf : Addr) (ps : List (Int × Int)) (rs : List V) (y : Option V), [some (V.ref g), some (.ref t), some (.ref p0), some (.int way), some (.ref p7), none, some (.int ((k : Int) + (((x :: rr).map V.int).length : Nat))), none, some (.ref pr), none] = [some (.ref g), some (.ref t), some (.ref p0), some (.int way), some (.ref pf), none, some (.int k'), none, y, none] ∧ k' ≤ ms.length ∧ H pf = none ∧ H8 pf = some (.lst rs) ∧ rs.length ≤ 2 * k' ∧ Tups H8 rs (ps.map pairV) ∧ Inj (ps.map (·.1)) (ms.take k') ∧ Inj (ps.map (·.2)) (ms.take k') ∧ Keep g H4 H8 ∧ Gen H8 g (n + 3 * ns.length + 3 + 6 * k') := by
        intro cl rs8 H8 e8 l8 t8 kk8 g8
        have ri := ring_inj (closed := cl) nodr
        refine ⟨k + (x :: rr).length, p7, ps ++ ringOf x rr cl, rs8, some (.ref pr), by rw [List.length_map]; rfl, hr2, n70, e8, l8, t8, ?_, ?_, kk8, g8.mono (by omega)⟩
        · rw [List.map_append, ← htk]
          exact j1.append ri.1 nodx
        · rw [List.map_append, ← htk]
          exact j2.append ri.2 nodx
      have less : ms.length - atOf [some (V.ref g), some (.ref t), some (.ref p0), some (.int way), some (.ref p7), none, some (.int ((k : Int) + (((x :: rr).map V.int).length : Nat))), none, some (.ref pr), none] < ms.length - atOf [some (V.ref g), some (.ref t), some (.ref p0), some (.int way), some (.ref pf), none, some (.int (k : Int)), none, y, none] := by
        show ms.length - ((k : Int) + (((x :: rr).map V.int).length : Nat)).toNat < ms.length - (k : Int).toNat
        rw [List.length_map]
        omega
      have l9 : (rs ++ rs').length + 1 ≤ 2 * (k + (x :: rr).length) := by
        rw [List.length_append]
        omega
      have lst0 : atI ((x :: rr).map V.int) (-1) = some (.int ((x :: rr).getLast (by simp))) := at_last
      refine ⟨_, rfl, rfl, _, rfl, ite2 (fun c3 => ?_) fun c3 => ?_⟩
      · refine ⟨_, rfl, .inl ⟨rfl, _, SqL.of e7⟩, _, rfl, _, rfl, pr, _, _, _, rfl, rfl, SqL.of er9, lst0, _, rfl, pr, _, 0, .int x, rfl, rfl, SqL.of er9, atI_nat (j := 0) rfl, by show 2 ≤ sizeLine; decide, fun T nT => ?_⟩
        have mT := same_new nT (o := .tup [.int ((x :: rr).getLast (by simp)), .int x])
        have eT : upd H9 T (.tup [.int ((x :: rr).getLast (by simp)), .int x]) T = some (.tup [.int ((x :: rr).getLast (by simp)), .int x]) := upd_same
        generalize upd H9 T (.tup [.int ((x :: rr).getLast (by simp)), .int x]) = H11 at mT eT ⊢
        have e11 := mT _ _ e7
        refine ⟨p7, _, _, rfl, rfl, e11, small1000 (by omega), ?_⟩
        have npp : pr ≠ p7 := ne_of_none (kp' _ _ npr0 er7) n7
        refine ⟨_, rfl, _, rfl, pr, _, rfl, .inl (SqL.of (by rw [upd_ne npp]; exact mT _ _ er9)), _, _, rfl, rfl, fin true (rs ++ rs' ++ [.ref T]) _ upd_same ?_ ?_ ((k9.trans (Keep.of_same mT)).upd_new n74) (((gn9.mono (show n + 3 * ns.length + 3 + 6 * k + 3 ≤ n + 3 * ns.length + 3 + 6 * k + 6 by omega)).same mT).upd n7g.symm), less⟩
        · rw [List.length_append, List.length_singleton]
          omega
        · have z := (Tups.put eT (tp9.keep (tk_same mT))).keep (tk_lst (ys := rs ++ rs' ++ [.ref T]) e11)
          show Tups _ _ ((ps ++ ((x :: rr).zip rr ++ [((x :: rr).getLast (by simp), x)])).map pairV)
          rw [← List.append_assoc, List.map_append]
          exact z
      · refine ⟨_, rfl, g, 2, _, rfl, gn9, by decide, by decide, by omega, fun r2 H10 r20 r21 gn10 b10 => ⟨rfl, _, rfl, ?_⟩⟩
        have e710 := (b10 p7 n7g).trans e7
        have er10 := (b10 pr npr0).trans er9
        have tp10 := tp9.keep (tk_keep (Keep.of_but b10) gn9)
        have k10 := k9.trans (Keep.of_but b10)
        refine ite2 (fun c4 => ?_) fun c4 => ?_
        · refine ⟨_, rfl, .inl ⟨rfl, _, SqL.of e710⟩, _, rfl, _, rfl, pr, _, _, _, rfl, rfl, SqL.of er10, lst0, _, rfl, pr, _, 0, .int x, rfl, rfl, SqL.of er10, atI_nat (j := 0) rfl, by show 2 ≤ sizeLine; decide, fun T nT => ?_⟩
          have mT := same_new nT (o := .tup [.int ((x :: rr).getLast (by simp)), .int x])
          have eT : upd H10 T (.tup [.int ((x :: rr).getLast (by simp)), .int x]) T = some (.tup [.int ((x :: rr).getLast (by simp)), .int x]) := upd_same
          generalize upd H10 T (.tup [.int ((x :: rr).getLast (by simp)), .int x]) = H11 at mT eT ⊢
          have e11 := mT _ _ e710
          refine ⟨p7, _, _, rfl, rfl, e11, small1000 (by omega), ?_⟩
          have npp : pr ≠ p7 := ne_of_none (kp' _ _ npr0 er7) n7
          refine ⟨_, rfl, _, rfl, pr, _, rfl, .inl (SqL.of (by rw [upd_ne npp]; exact mT _ _ er10)), _, _, rfl, rfl, fin true (rs ++ rs' ++ [.ref T]) _ upd_same ?_ ?_ ((k10.trans (Keep.of_same mT)).upd_new n74) (((gn10.mono (show n + 3 * ns.length + 3 + 6 * k + 3 + 3 ≤ n + 3 * ns.length + 3 + 6 * k + 6 by omega)).same mT).upd n7g.symm), less⟩
          · rw [List.length_append, List.length_singleton]
            omega
          · have z := (Tups.put eT (tp10.keep (tk_same mT))).keep (tk_lst (ys := rs ++ rs' ++ [.ref T]) e11)
            show Tups _ _ ((ps ++ ((x :: rr).zip rr ++ [((x :: rr).getLast (by simp), x)])).map pairV)
            rw [← List.append_assoc, List.map_append]
            exact z
        · refine ⟨_, rfl, _, rfl, pr, _, rfl, .inl (SqL.of er10), _, _, rfl, rfl, fin false (rs ++ rs') _ e710 (by omega) ?_ k10 (gn10.mono (by omega)), less⟩
          show Tups _ _ ((ps ++ ((x :: rr).zip rr ++ [])).map pairV)
          rw [List.append_nil]
          exact tp10
    · -- the end
      have hk2 : k = ms.length := by
        have z := of_decide_eq_false (Bool.eq_false_iff.mpr c)
        rw [List.length_map] at z
        omega
      rw [hk2, List.take_length] at j1 j2
      exact ⟨_, rfl, q pf rs ps H' (inj_oneToOne j1 j2 subm) (k4.trans kp) npf ef tp (gn.mono (by omega))⟩
  · obtain ⟨v, e, v2, e2, p, ys, e3, o, i, j, ei, ej, kk, ek, z⟩ := hc
    exact ⟨v, e, v2, e2, p, ys, e3, o, i, j, ei, ej, kk, ek, h _ _ z⟩
end
end DQ

set_option Elab.async false
set_option linter.all false
set_option maxRecDepth 100000
set_option maxHeartbeats 4000000
namespace DQ
open PySem PySem.Spec PyProof.Rows L2
/-- rising items -/
def Rising (ns : List Int) : Prop := ns.Pairwise (· < ·) ∧ ∀ x ∈ ns, 0 ≤ x ∧ x ≤ 1000000000
theorem Rising.nodup {ns : List Int} (h : Rising ns) : ns.Nodup := h.1.imp fun h e => by omega
theorem rising_put {ns : List Int} {v : Int} (h : Rising ns) (hv : ∀ x ∈ ns, x < v) (v0 : 0 ≤ v) (v1 : v ≤ 1000000000) : Rising (ns ++ [v]) := by
  refine ⟨List.pairwise_append.mpr ⟨h.1, List.pairwise_singleton _ _, fun x hx y hy => ?_⟩, fun x hx => ?_⟩
  · rw [List.mem_singleton] at hy
    rw [hy]
    exact hv x hx
  · rcases List.mem_append.mp hx with z | z
    · exact h.2 x z
    · rw [List.mem_singleton] at z
      rw [z]
      exact ⟨v0, v1⟩
end DQ

set_option Elab.async false
set_option linter.all false
set_option maxRecDepth 100000
set_option maxHeartbeats 4000000
namespace DQ
open PySem PySem.Spec PyProof.Rows L2
/-! ### sorted(xs), the items data of one shape -/
theorem vals_each {β : Type} : ∀ {zs : List (V × β)} {us : List Value}, Vals (zs.map (·.1)) us → PySem.W.EachIs (fun (u : Value) (z : V × β) => RelV z.1 u) us zs
  | [], _, .nil => .nil
  | _ :: _, _, .cons r t => .cons r (vals_each t)
theorem each_vals {β : Type} : ∀ {us : List Value} {zs : List (V × β)}, PySem.W.EachIs (fun (u : Value) (z : V × β) => RelV z.1 u) us zs → Vals (zs.map (·.1)) us
  | _, _, .nil => .nil
  | _, _, .cons r t => .cons r (each_vals t)
def rSortD {β : Type} (enc : β → PyData) (K : PySem.W.Frag) : List V → Hp → VK → Prop := fun vs H Q => ∃ (a : Addr) (zs : List (V × β)), vs = [.ref a] ∧ SqL K H a (zs.map (·.1)) ∧ (∀ z ∈ zs, Dp K H z.1 (enc z.2)) ∧ PySem.W.AllAlike (zs.map fun z => enc z.2) ∧ PySem.W.Sortable (zs.map fun z => enc z.2) ∧
  (∀ z ∈ zs, (enc z.2).depth ≤ 8) ∧ ∀ p, H p = none → Q (.ref p) (upd H p (.lst ((zs.mergeSort (PySem.W.dataLe false fun z => enc z.2)).map (·.1))))
theorem each_reads {X : Cx} {pins : List (Addr × Obj)} {σ : L2.St} {H : Hp} {s : Shared} {β : Type} {enc : β → PyData} (I : Inv X pins σ H s) : ∀ {zs : List (V × β)} {us : List Value}, Vals (zs.map (·.1)) us → (∀ z ∈ zs, Dp X.K H z.1 (enc z.2)) → PySem.W.EachIs (fun (u : Value) (z : V × β) => ∃ as, Reads s.heap u (enc z.2) as) us zs
  | [], _, .nil, _ => .nil
  | z :: _, _, .cons r t, h => .cons (Dp.reads I _ _ _ (h z (List.mem_cons_self ..)) r) (each_reads I t fun y hy => h y (List.mem_cons_of_mem _ hy))
theorem cr_sortD {X : Cx} {β : Type} {enc : β → PyData} (hu : X.A.units + 64 < cLine) : CallR X (.builtin "sorted") (rSortD enc X.K) := by
  intro pins s σ H vs us Q I r h
  obtain ⟨a, zs, rfl, hs, hd, al, so, dep, q⟩ := h
  obtain ⟨its, rv, hl, hz⟩ := I.list hs
  obtain ⟨u, rfl, ru⟩ := vals1 r
  obtain rfl : u = Value.ref a := ru
  have hz' : its.length ≤ sizeLine := by rw [← rv.length]; exact hz
  have hlen : zs.length = its.length := by rw [← rv.length, List.length_map]
  refine PySem.W.sorted_data (enc := fun z : V × β => enc z.2) hl.isList (vals_each rv) (each_reads I rv hd) al so (by rw [hlen]; exact hz') (fun z hz => by have := dep z hz; omega) fun out ho eo => ?_
  obtain ⟨c, hc⟩ := sortedAll_at s.heap its out.toArray
  have ro := each_vals eo
  have hn : H (s.heap.objs.size + 1) = none := I.hok.fresh (Nat.le_succ _)
  refine ⟨.ref (s.heap.objs.size + 1), _, I.laid (t' := s.toks) (o := .lst ((zs.mergeSort (PySem.W.dataLe false fun z => enc z.2)).map (·.1))) (fun _ _ => sortedAll_old) (Nat.le_succ _) ⟨?_, out, c, ro, hc⟩, rfl, q _ hn⟩
  rw [ro.length, ho, hlen]
  exact hz'
end DQ

set_option Elab.async false
set_option linter.all false
set_option maxRecDepth 100000
namespace DQ
open PySem PySem.Spec PyProof.Rows L2
/-- a fact -/
inductive Fact where
  | mark (m : Str) (i : Int)
  | link (c : Str) (a b : Int)
def Fact.v : Fact → List V
  | .mark m i => [.str "mark", .str m, .int i]
  | .link c a b => [.str "link", .str c, .int a, .int b]
def Fact.d : Fact → PyData
  | .mark m i => .tuple [.str "mark", .str m, .int i]
  | .link c a b => .tuple [.str "link", .str c, .int a, .int b]
/-- the links of a column -/
def Fact.on (c : Str) : Fact → Option (Int × Int)
  | .mark _ _ => none
  | .link c' a b => if c' = c then some (a, b) else none
def linksOf (c : Str) (fs : List Fact) : List (Int × Int) := fs.filterMap (Fact.on c)
structure Store where
  marks : List Str
  columns : List Str
  items : List Int
  facts : List Fact
def Fact.of (S : Store) : Fact → Prop
  | .mark m i => m ∈ S.marks ∧ i ∈ S.items
  | .link c a b => c ∈ S.columns ∧ a ∈ S.items ∧ b ∈ S.items
/-- a drawn store of at most so many items -/
structure Drawn (m : Nat) (S : Store) : Prop where
  marks : ∃ k, k ≤ 3 ∧ S.marks = (["red", "blue", "gold"] : List Str).take k
  columns : ∃ k, 1 ≤ k ∧ k ≤ 2 ∧ S.columns = (["next", "below"] : List Str).take k
  items : Rising S.items
  few : S.items.length ≤ m
  short : S.facts.length ≤ 1000
  rise : S.facts.Pairwise fun x y => PySem.W.dataLt x.d y.d = true
  facts : ∀ x ∈ S.facts, x.of S
  links : ∀ c, OneToOne S.items (linksOf c S.facts)
theorem str_inj {x y : Str} (h : x.cps.toList = y.cps.toList) : x = y := PySem.W.str_of_cps h
theorem fact_toks {x y : Fact} (h : PySem.W.keyToks x.d = PySem.W.keyToks y.d) : x = y := by
  cases x with
  | mark m i =>
    cases y with
    | mark m' i' =>
      simp only [Fact.d, PySem.W.keyToks, PySem.W.keyToksAll, List.cons_append, List.nil_append, List.cons.injEq, Sum.inr.injEq, Sum.inl.injEq, true_and, and_true] at h
      rw [str_inj h.1, h.2]
    | link c a b =>
      simp only [Fact.d, PySem.W.keyToks, PySem.W.keyToksAll, List.cons_append, List.nil_append, List.cons.injEq, Sum.inr.injEq, Sum.inl.injEq, true_and, and_true] at h
      exact absurd h.1 (by decide)
  | link c a b =>
    cases y with
    | mark m' i' =>
      simp only [Fact.d, PySem.W.keyToks, PySem.W.keyToksAll, List.cons_append, List.nil_append, List.cons.injEq, Sum.inr.injEq, Sum.inl.injEq, true_and, and_true] at h
      exact absurd h.1 (by decide)
    | link c' a' b' =>
      simp only [Fact.d, PySem.W.keyToks, PySem.W.keyToksAll, List.cons_append, List.nil_append, List.cons.injEq, Sum.inr.injEq, Sum.inl.injEq, true_and, and_true] at h
      rw [str_inj h.1, h.2.1, h.2.2]
theorem fact_lt {x y : Fact} (ne : x ≠ y) (h : PySem.W.dataLt y.d x.d = false) : PySem.W.dataLt x.d y.d = true := by
  cases q : PySem.W.dataLt x.d y.d with
  | true => rfl
  | false => exact absurd (fact_toks (lex_total _ _ q h)) ne
theorem sorted_rise {zs : List (V × Fact)} (nd : (zs.map (·.2)).Nodup) : ((zs.mergeSort (PySem.W.dataLe false fun z => z.2.d)).map (·.2)).Pairwise fun x y => PySem.W.dataLt x.d y.d = true := by
  have pm : (zs.mergeSort (PySem.W.dataLe false fun z => z.2.d)).Perm zs := List.mergeSort_perm _ _
  have nd2 : ((zs.mergeSort (PySem.W.dataLe false fun z => z.2.d)).map (·.2)).Nodup := (pm.map (·.2)).nodup_iff.mpr nd
  have so := PySem.W.sort_pairwise (PySem.W.sortLe_total (listOrd itemOrd) false fun z : V × Fact => PySem.W.keyToks z.2.d) zs
  refine List.pairwise_map.mpr ?_
  have nd3 := List.pairwise_map.mp nd2
  exact (List.pairwise_and_iff.mpr ⟨so, nd3⟩).imp fun {a b} h => fact_lt h.2 (by
    have z : (!PySem.W.dataLt b.2.d a.2.d) = true := h.1
    simpa using z)
theorem OneToOne.perm {ns : List Int} {ps qs : List (Int × Int)} (h : OneToOne ns ps) (p : qs.Perm ps) : OneToOne ns qs :=
  ⟨(p.map (·.1)).nodup_iff.mpr h.1, (p.map (·.2)).nodup_iff.mpr h.2.1, fun x hx => h.2.2 x (p.subset hx)⟩
theorem links_perm {c : Str} {fs gs : List Fact} (p : fs.Perm gs) : (linksOf c fs).Perm (linksOf c gs) := p.filterMap _
theorem links_append {c : Str} {fs gs : List Fact} : linksOf c (fs ++ gs) = linksOf c fs ++ linksOf c gs := List.filterMap_append
end DQ
namespace DQ
open PySem PySem.Spec PyProof.Rows L2
theorem links_marks {c : Str} {fs : List Fact} (h : ∀ x ∈ fs, ∃ m i, x = Fact.mark m i) : linksOf c fs = [] := by
  unfold linksOf
  refine List.filterMap_eq_nil_iff.mpr fun x hx => ?_
  obtain ⟨m, i, rfl⟩ := h x hx
  rfl
theorem links_self {c : Str} : ∀ ps : List (Int × Int), linksOf c (ps.map fun p => Fact.link c p.1 p.2) = ps
  | [] => rfl
  | p :: r => by
    have ih := links_self (c := c) r
    unfold linksOf at ih ⊢
    rw [List.map_cons, List.filterMap_cons_some (b := p) (by show (if c = c then some (p.1, p.2) else none) = some p; rw [if_pos rfl]), ih]
theorem links_other {c c' : Str} (ne : c ≠ c') (ps : List (Int × Int)) : linksOf c' (ps.map fun p => Fact.link c p.1 p.2) = [] := by
  unfold linksOf
  refine List.filterMap_eq_nil_iff.mpr fun x hx => ?_
  obtain ⟨p, _, rfl⟩ := List.mem_map.mp hx
  show (if c = c' then some (p.1, p.2) else none) = none
  rw [if_neg ne]
theorem len_sub : ∀ {l m : List Int}, l.Nodup → (∀ x ∈ l, x ∈ m) → l.length ≤ m.length
  | [], _, _, _ => Nat.zero_le _
  | x :: l, m, nd, h => by
    have hx := h x (List.mem_cons_self ..)
    obtain ⟨h1, h2⟩ := List.nodup_cons.mp nd
    have z := len_sub (l := l) (m := m.erase x) h2 fun y hy => (List.mem_erase_of_ne (fun e => h1 (by rw [← e]; exact hy))).mpr (h y (List.mem_cons_of_mem _ hy))
    rw [List.length_erase_of_mem hx] at z
    have := List.length_pos_of_mem hx
    rw [List.length_cons]
    omega
theorem OneToOne.len {ns : List Int} {ps : List (Int × Int)} (h : OneToOne ns ps) : ps.length ≤ ns.length := by
  have z := len_sub h.1 fun x hx => by
    obtain ⟨p, hp, rfl⟩ := List.mem_map.mp hx
    exact (h.2.2 p hp).1
  rw [List.length_map] at z
  exact z
theorem OneToOne.nodup {ns : List Int} {ps : List (Int × Int)} (h : OneToOne ns ps) : ps.Nodup := (List.pairwise_map.mp h.1).imp fun h e => h (by rw [e])
theorem oneToOne_nil (ns : List Int) : OneToOne ns [] := ⟨List.nodup_nil, List.nodup_nil, fun p h => by cases h⟩
theorem Tups.get {H : Hp} : ∀ {rs : List V} {ts : List (List V)} {k : Nat} {x : V}, Tups H rs ts → rs[k]? = some x → ∃ a t, x = .ref a ∧ H a = some (.tup t) ∧ ts[k]? = some t
  | _, _, k, x, .nil, h => by simp at h
  | _, _, 0, x, .cons ⟨a, e, h1⟩ _, h => by
    cases h
    exact ⟨a, _, e, h1, rfl⟩
  | _, _, k + 1, x, .cons _ r, h => Tups.get r (k := k) (by simpa using h)
theorem Tups.length {H : Hp} {rs : List V} {ts : List (List V)} (h : Tups H rs ts) : rs.length = ts.length := Paired.length h
theorem Tups.zip {H : Hp} : ∀ {rs : List V} {fs : List Fact}, Tups H rs (fs.map Fact.v) → ∀ z ∈ rs.zip fs, ∃ a, z.1 = .ref a ∧ H a = some (.tup z.2.v)
  | [], [], _, z, h => by cases h
  | [], _ :: _, t, _, _ => by cases t
  | _ :: _, [], t, _, _ => by cases t
  | r :: rs, f :: fs, .cons h t, z, hz => by
    rcases List.mem_cons.mp hz with e | e
    · rw [e]
      exact h
    · exact Tups.zip t z e
theorem tups_of {H : Hp} : ∀ zs : List (V × Fact), (∀ z ∈ zs, ∃ a, z.1 = .ref a ∧ H a = some (.tup z.2.v)) → Tups H (zs.map (·.1)) ((zs.map (·.2)).map Fact.v)
  | [], _ => .nil
  | z :: r, h => .cons (h z (List.mem_cons_self ..)) (tups_of r fun y hy => h y (List.mem_cons_of_mem _ hy))
theorem fact_dp {K : PySem.W.Frag} {H : Hp} {a : Addr} {x : Fact} (h : H a = some (.tup x.v)) : Dp K H (.ref a) x.d := by
  cases x with
  | mark m i => exact .tup (.inl (.inl h)) (.cons (.str _) (.cons (.str _) (.cons (.int _) .nil)))
  | link c a b => exact .tup (.inl (.inl h)) (.cons (.str _) (.cons (.str _) (.cons (.int _) (.cons (.int _) .nil))))
theorem fact_alike (x y : Fact) : PySem.W.alike x.d y.d = true := by
  cases x <;> cases y <;> rfl
theorem fact_depth (x : Fact) : x.d.depth ≤ 8 := by
  cases x
  · show 0 + 1 ≤ 8
    decide
  · show 0 + 1 ≤ 8
    decide
theorem fact_tuple (x : Fact) : ∃ y r, x.d = .tuple (y :: r) := by
  cases x
  · exact ⟨_, _, rfl⟩
  · exact ⟨_, _, rfl⟩
theorem links_out {S : Store} {c : Str} {fs : List Fact} (h : ∀ x ∈ fs, x.of S) (nc : c ∉ S.columns) : linksOf c fs = [] := by
  unfold linksOf
  refine List.filterMap_eq_nil_iff.mpr fun x hx => ?_
  cases x with
  | mark m i => rfl
  | link c' a b =>
    have z := (h _ hx).1
    show (if c' = c then some (a, b) else none) = none
    rw [if_neg fun e => nc (by rw [← e]; exact z)]
end DQ

set_option Elab.async false
set_option linter.all false
set_option maxRecDepth 100000
set_option maxHeartbeats 4000000
namespace DQ
open PySem PySem.Spec PyProof.Rows L2
/-- the store stands at v -/
def StoAt (H : Hp) (v : V) (S : Store) : Prop := ∃ (a m c i f : Addr) (rs : List V), v = .ref a ∧ H a = some (.tup [.str "store", .ref m, .ref c, .ref i, .ref f]) ∧ H m = some (.lst (S.marks.map V.str)) ∧ H c = some (.lst (S.columns.map V.str)) ∧ H i = some (.lst (S.items.map V.int)) ∧ H f = some (.lst rs) ∧ Tups H rs (S.facts.map Fact.v)
theorem tk_del {g : Addr} {H : Hp} {n : Int} (G : Gen H g n) : TupKeep H (del H g) := fun a t h => by
  obtain ⟨x, y, z, eg, _⟩ := G
  rw [del_ne (fun e => by rw [e, eg] at h; cases h)]
  exact h
theorem cut_take {xs : List V} {r : Int} (h0 : 0 ≤ r) : cutV xs none (some r) = xs.take r.toNat := by
  have e : r = ((r.toNat : Nat) : Int) := by omega
  unfold cutV
  rw [HT.sIx_none, List.drop_zero, e, show HT.sIx xs.length xs.length (some ((r.toNat : Nat) : Int)) = min r.toNat xs.length from HT.sIx_nat _ _ _, Nat.sub_zero, Int.toNat_natCast]
  by_cases h : r.toNat ≤ xs.length
  · rw [Nat.min_eq_left h]
  · rw [Nat.min_eq_right (by omega), List.take_length, List.take_of_length_le (by omega)]
theorem at_map {α β : Type} {f : α → β} {l : List α} {i : Nat} {y : β} (h : (l.map f)[i]? = some y) : ∃ x, l[i]? = some x ∧ y = f x := by
  rw [List.getElem?_map] at h
  obtain ⟨x, hx, e⟩ := Option.map_eq_some_iff.mp h
  exact ⟨x, hx, e.symm⟩
end DQ

set_option Elab.async false
set_option linter.all false
set_option maxRecDepth 100000
set_option maxHeartbeats 4000000
/-! ### len(set(texts)), a list of any length -/
namespace DQ
open PySem PySem.Spec PyProof.Rows L2
/-- how many differ among the first i -/
def differ (xs : List Str) : Nat → Nat
  | 0 => 0
  | i + 1 => if (xs.take i).any (· == xs.getD i Str.empty) = true then differ xs i else differ xs i + 1
theorem differ_le (xs : List Str) : ∀ i, differ xs i ≤ i
  | 0 => Nat.le_refl _
  | i + 1 => by
    have := differ_le xs i
    unfold differ
    split <;> omega
theorem differ_nodup {xs : List Str} (nd : xs.Nodup) : ∀ i, i ≤ xs.length → differ xs i = i
  | 0, _ => rfl
  | i + 1, h => by
    have e : xs[i]? = some (xs.getD i Str.empty) := by
      rw [List.getD_eq_getElem?_getD, List.getElem?_eq_getElem (by omega)]
      rfl
    have no : ¬ (xs.take i).any (· == xs.getD i Str.empty) = true := fun q => by
      obtain ⟨y, hy, ey⟩ := List.any_eq_true.mp q
      have z : (xs.take i ++ [xs.getD i Str.empty]).Nodup := by
        rw [← take_next e]
        exact (List.take_sublist _ _).nodup nd
      exact (List.nodup_append.mp z).2.2 y hy _ (List.mem_singleton.mpr rfl) (eq_of_beq ey)
    unfold differ
    rw [if_neg no, differ_nodup nd i (by omega)]
theorem any_next {xs : List Str} {i : Nat} (h : i < xs.length) (k : Str) : ((xs.take i).any (· == k) || decide (k = xs.getD i Str.empty)) = (xs.take (i + 1)).any (· == k) := by
  have e : xs[i]? = some (xs.getD i Str.empty) := by
    rw [List.getD_eq_getElem?_getD, List.getElem?_eq_getElem h]
    rfl
  rw [take_next e, List.any_append]
  congr 1
  show decide (k = xs.getD i Str.empty) = ((xs.getD i Str.empty == k) || false)
  rw [Bool.or_false]
  by_cases q : k = xs.getD i Str.empty
  · rw [← q]; simp
  · rw [decide_eq_false q]
    exact (beq_eq_false_iff_ne.mpr fun z => q z.symm).symm
section
variable {prog : Program} {w : World} {A : Around} {R : Result → Shared → Prop} {I : Addr} {fp wr : List Addr} {G : Array GenState → Array GenState → Prop} {n : Nat} {P : Nat → Value → Prop} {St : Nat → Shared → Prop}
theorem texts_in (W : WalksS prog w A.in1 I fp wr G n P St) {S : Addr} (out : S ∉ fp) {xs : List Str} (len : xs.length = n) (few : n + 1 < scanBound) (val : ∀ i v, P i v → ∃ t, v = .str (xs.getD i Str.empty) t) :
    ∀ (k i : Nat) (s : Shared), n - i = k → i ≤ n → St i s → s.heap.SetOf (PySem.strKind prog w) S (fun z => (xs.take i).any (· == z)) (differ xs i) →
      (∀ s', Moved (S :: wr) G s s' → s'.heap.SetOf (PySem.strKind prog w) S (fun z => (xs.take n).any (· == z)) (differ xs n) → R (.ok (.ret .none)) s') →
      codeAny (model prog w) A (.builtin "set.update.loop" ⟨[.ref S, .ref I], []⟩) R s := by
  have outw : S ∉ wr := fun h => out (W.sub _ h)
  have more : ∀ b ∈ wr, b ∈ S :: wr := fun b h => List.mem_cons_of_mem _ h
  have kept : ∀ {s s' : Shared} {T : Str → Bool} {c : Nat}, Moved wr G s s' → s.heap.SetOf (PySem.strKind prog w) S T c → s'.heap.SetOf (PySem.strKind prog w) S T c := fun m ⟨o, es, ep, t, ho, r⟩ => ⟨o, es, ep, t, m.heap S _ outw ho, r⟩
  intro k
  induction k with
  | zero =>
    intro i s hk hi st hS done
    obtain rfl : i = n := by omega
    refine codeAny_builtin PyProof.Rows.F.entry_set_update_loop ?_
    rw [Around.under_plainId PyProof.Rows.F.plain_set_update_loop _]
    show wpAny _ A.in1 (pyNext (.ref I) >>= _) _ _ s
    refine wpAny_bind (W.done s _ _ st fun s' m => ?_)
    show wpAny _ A.in1 (ret Value.none) _ _ s'
    exact wpAny_pure (done s' (m.mono more) (kept m hS))
  | succ k ih =>
    intro i s hk hi st hS done
    have lt : i < n := by omega
    refine codeAny_builtin PyProof.Rows.F.entry_set_update_loop ?_
    rw [Around.under_plainId PyProof.Rows.F.plain_set_update_loop _]
    show wpAny _ A.in1 (pyNext (.ref I) >>= _) _ _ s
    refine wpAny_bind (W.item i s _ _ lt st fun v s' hP st' m => ?_)
    obtain ⟨t, rfl⟩ := val i v hP
    have hS1 := kept m hS
    show wpAny _ A.in1 (holding [Value.str (xs.getD i Str.empty) t] (setAdd S (.str (xs.getD i Str.empty) t)) >>= _) _ _ s'
    refine wpAny_bind (wpAny_holding ?_)
    unfold setAdd
    refine wpAny_holding (wpAny_bind ((PySem.strKind prog w).pyHash (k := xs.getD i Str.empty) (strKind_is _ _ _ _) ?_))
    refine wpAny_setAddHashed_of (knd := PySem.strKind prog w) (s := { s' with toks := s'.toks + 1 }) (strKind_is _ _ _ _) rfl hS1 (by have := differ_le xs i; omega) fun h' same hS2 => ?_
    refine wpAny_pure ⟨plainId_quiet PyProof.Rows.F.plain_set_update_loop _, ih (i + 1) _ (by omega) lt (W.frame _ s' _ _ st' (Nat.le_succ _) fun b hb o e => ?_) (SetOf_congr hS2 (fun z => any_next (by omega) z) rfl) fun s'' m2 hS3 => ?_⟩
    · rw [same.2 b fun z : b = S => out (by rw [← z]; exact hb)]
      exact e
    · refine done s'' (Moved.trans W.gtrans ((m.mono more).then_heap (Nat.le_succ _) fun b o hb e => ?_) m2) hS3
      rw [same.2 b fun z : b = S => hb (by rw [z]; exact List.mem_cons_self)]
      exact e
end
section
variable {prog : Program} {w : World} {A : Around} {E : Value → Shared → Prop} {s : Shared}
theorem set_of_texts {l : Addr} {items : Array Value} {xs : List Str} {Q : Value → Shared → Prop} (hh : A.handled = none) (hl : s.heap.IsList l items) (hi : StrsAre items.toList xs) (few : items.size + 1 < scanBound)
    (done : ∀ (h' : Heap) (tk : Nat), h'.SetOf (PySem.strKind prog w) s.heap.objs.size (fun z => (xs.take items.size).any (· == z)) (differ xs items.size) →
      (∀ b o, b < s.heap.objs.size → s.heap.get? b = some o → h'.get? b = some o) → Q (.ref s.heap.objs.size) { s with heap := h', toks := tk }) :
    wpAny (model prog w) A (call (.type "set") [.ref l]) Q E s := by
  obtain ⟨c, tl, hmro⟩ := PySem.F.called_set.mro
  have made := PySem.F.called_set.made
  have sub := PySem.F.called_set.sub
  refine wpAny_call (codeAny_of_tree ?_)
  show wpAny _ _ (callAny (.type "set") _) _ _ _
  refine wpAny_pure ⟨Code.quiet_builtin _ (by decide +kernel), codeAny_builtin PySem.F.entry_type_call ?_⟩
  rw [Around.under_plain (weight_type_call_type "set" [.ref l] []) rfl]
  have h1 := PySem.F.called_set.notType
  have h2 := PySem.F.called_set.canCreate
  have h3 := PySem.F.typeCall_set_1 (.ref l)
  repeat (any_goals (first | assumption | wp_step))
  refine codeAny_mono (code_set_new_1 (.ref l) (E := E) (Q₁ := fun o s1 => ∃ led : Bool, o = .ref s.heap.objs.size ∧ s1 = { s with heap := s.heap.push { cls := .type "set", dict := none, data := .set #[] 0 (.fresh 0 0 led) } }) fun led => ⟨led, rfl, rfl⟩) fun r s1 hr => ?_
  cases r with
  | error e => exact hr
  | ok fl =>
    cases fl with
    | ret o =>
      obtain ⟨led, rfl, rfl⟩ := hr
      have hS : (s.heap.push { cls := .type "set", dict := none, data := .set #[] 0 (.fresh 0 0 led) }).get? s.heap.objs.size = some { cls := .type "set", dict := none, data := .set #[] 0 (.fresh 0 0 led) } := Heap.get?_push_size _ rfl
      have hT : Shared.TypeIs { s with heap := s.heap.push { cls := .type "set", dict := none, data := .set #[] 0 (.fresh 0 0 led) } } (.ref s.heap.objs.size) "set" := ⟨_, hS, rfl⟩
      have i1 := PySem.F.called_set.init.lookup
      have i2 := PySem.F.called_set.init.bind (.ref s.heap.objs.size)
      repeat (any_goals (first | assumption | wp_step))
      refine codeAny_mono (codeAny_call_builtin (R := wants (fun r s2 => r = .none ∧ ∃ h' tk, s2 = { s with heap := h', toks := tk } ∧ h'.SetOf (PySem.strKind prog w) s.heap.objs.size (fun z => (xs.take items.size).any (· == z)) (differ xs items.size) ∧
          (∀ b o, b < s.heap.objs.size → s.heap.get? b = some o → h'.get? b = some o)) E) PySem.F.called_set.init.plain PySem.F.entry_set_init (check_set_init_1 hT ?_)) fun r s2 hr => ?_
      · obtain ⟨⟨cls, dd, dt, sl⟩, ho, hc, nl, hd⟩ := hl
        simp only at hc hd
        subst hc hd
        have ho1 : (s.heap.push { cls := .type "set", dict := none, data := .set #[] 0 (.fresh 0 0 led) }).get? l = some { cls := .type "list", dict := dd, data := .seq items nl, slots := sl } := Heap.get?_push_of_some _ ho
        have l1 : (s.heap.push { cls := .type "set", dict := none, data := .set #[] 0 (.fresh 0 0 led) }).IsList l items := ⟨_, ho1, rfl, nl, rfl⟩
        have n1 := PySem.F.sub_list_set
        have n2 := PySem.F.sub_list_frozenset
        have n3 : (Value.type "list" == Value.type "dict") = false := by decide
        unfold Builtin.«set.__init__» noKeywords Builtin.Frozenset.updateFrom
        generalize hit : pyIter = it
        wp_walk
        subst hit
        refine wpAny_pyIter_list l1 (wpAny_bind (wpAny_runValue ?_))
        have hlt : l < s.heap.objs.size := Heap.lt_size ho
        have sz := Heap.size_push s.heap { cls := .type "set", dict := none, data := .set #[] 0 (.fresh 0 0 led) }
        have n4 : l ≠ (s.heap.push { cls := .type "set", dict := none, data := .set #[] 0 (.fresh 0 0 led) }).objs.size := by
          rw [sz]
          exact Nat.ne_of_lt (Nat.lt_succ_of_lt hlt)
        have n5 : s.heap.objs.size ∉ [(s.heap.push { cls := .type "set", dict := none, data := .set #[] 0 (.fresh 0 0 led) }).objs.size, l] := fun q => by
          rw [sz] at q
          rcases List.mem_cons.mp q with e | q
          · exact absurd e (Nat.ne_of_lt (Nat.lt_succ_self _))
          · exact absurd (List.mem_singleton.mp q) (Nat.ne_of_gt hlt)
        have val : ∀ (i : Nat) (v : Value), items[i]? = some v → ∃ t, v = .str (xs.getD i Str.empty) t := fun i v hv => SS.strs_at hi i v (by rw [Array.getElem?_toList]; exact hv)
        refine texts_in ((Walks.list (by simp [hh]) _ l n4 items).toS) n5 (by rw [← StrsAre.len_eq hi, Array.length_toList]) few val items.size 0 _ (Nat.sub_zero _) (Nat.zero_le _) ⟨⟨_, Heap.get?_push_size _ rfl, rfl, rfl⟩, l1.push _⟩ ?_ ?_
        · exact SetOf_congr ((setObjOf_fresh (knd := PySem.strKind prog w) led).setOf (Heap.get?_push_of_some _ hS) (by unfold scanBound; omega)) (fun _ => rfl) rfl
        · intro s' m hS'
          obtain ⟨h', g', d', tk', os'⟩ := s'
          obtain rfl : g' = s.gens := m.gens
          obtain rfl : d' = s.drawn := m.drawn
          obtain rfl : os' = s.os := m.os
          show wpAny _ _ _ _ _ _
          refine wpAny_pure ?_
          show wpAny _ _ (ret Value.none) _ _ _
          refine wpAny_pure ⟨rfl, h', tk', rfl, hS', fun b o hb e => m.heap b o (fun q => ?_) (Heap.get?_push_of_some _ (Heap.get?_push_of_some _ e))⟩
          rw [sz] at q
          rcases List.mem_cons.mp q with e | q
          · exact absurd e (Nat.ne_of_lt hb)
          · exact absurd (List.mem_singleton.mp q) (Nat.ne_of_lt (Nat.lt_succ_of_lt hb))
      · cases r with
        | error e => exact hr
        | ok fl2 =>
          cases fl2 with
          | ret r =>
            obtain ⟨rfl, h', tk, rfl, hS', k⟩ := hr
            repeat (any_goals (first | assumption | wp_step))
            exact done _ _ hS' k
          | _ => exact hr.elim
    | _ => exact hr.elim
end
section
variable {X : Cx}
/-- len(set(xs)), xs a list of texts -/
def tLenSetT (K : PySem.W.Frag) (ta : TE) : TE := fun σ H Q => ta σ H fun x H1 => ∃ (l : Addr) (xs : List Str), x = .ref l ∧ SqL K H1 l (xs.map V.str) ∧ xs.length ≤ 1000 ∧ Q (.int (differ xs xs.length : Nat)) H1
theorem pe_lenSetT {a : Expr} {ta : TE} {p p2 q pos : Pos} (hc : X.calm = true) (hg : Gl X "len") (hm : X.mg "len" = none) (hg2 : Gl X "set") (hm2 : X.mg "set" = none) (ha : PE X a ta)
    (na : starEach [a] X.env = (false, eval a X.env) :: starEach [] X.env := by rfl) : PE X (.Call (.Name "len" p) [.Call (.Name "set" p2) [a] [] q] [] pos) (tLenSetT X.K ta) := by
  refine ⟨fun pins s σ H Q I h => ?_⟩
  refine Call_ (ld_blt I hg hm boot_len ?_)
  refine callWith_builtin1 (args_cons ?_ rfl) rfl rfl
  refine Call_ (ld_blt I hg2 hm2 boot_set ?_)
  refine callWith_type1 (args_cons (thn (ha.run pins s σ H _ I h) fun v s1 ⟨x, H1, I1, r1, q1⟩ => args_nil ?_) na) na rfl
  obtain ⟨l, xs, rfl, hq, h1, q1⟩ := q1
  cases r1
  obtain ⟨its, r, pl, hz⟩ := I1.list hq
  have hl : its.toArray.size = xs.length := by rw [List.size_toArray, ← r.length, List.length_map]
  refine set_of_texts (I1.ok.hd hc) pl.isList (by simpa using strsAre_of r) (by unfold scanBound; omega) fun h' tk hS hk => args_nil ?_
  rw [hl] at hS
  obtain ⟨o, es, ep, t, ho, hex, hd, _, _, _, hf, hn⟩ := hS
  have I2 : Inv X pins σ H1 { s1 with heap := h', toks := tk } := I1.kept fun b o e => hk b o (Heap.lt_size e) e
  have dl := differ_le xs xs.length
  exact call_len_set ho hex hd hf (by rw [hn] <;> omega) ⟨.int (differ xs xs.length : Nat), H1, I2.tok _, ⟨_, by rw [hn]⟩, q1⟩
end
end DQ

set_option Elab.async false
set_option linter.all false
set_option maxRecDepth 100000
set_option maxHeartbeats 4000000
namespace DQ
open PySem PySem.Spec PyProof.Rows L2
/-! ### a comprehension whose items are flags, without an if -/
theorem same_upd {H H' : Hp} {D : Addr} {o : HO} (s : Same H H') (nD : H D = none) : Same H (upd H' D o) := fun b u e => by
  rw [upd_ne (ne_of_none e nD)]
  exact s b u e
theorem yes_if {A B : Prop} (h : A) : if (true : Bool) = true then A else B := (if_pos rfl : (if (true : Bool) = true then A else B) = A).mpr h
theorem lc_bools {J : It} {n : Nat} {G : Hp → Prop} {Y : Nat → Hp → V → Hp → Prop} (w : Walk J n G Y) {g : TG} {te : TE} {vs : List Nat} {σ : L2.St} {H1 : Hp} {D : Addr} {Qd : Hp → Prop} (bs : List Bool) (hn : bs.length = n) (few : n < sizeLine) (nD : H1 D = none)
    (hG : ∀ H, Same H1 H → G H) (hY : ∀ i H x H', Y i H x H' → Same H H')
    (hs : ∀ i x H H' b, i < n → bs[i]? = some b → Same H1 H → Y i H x H' → ∀ R : V → Hp → Prop, (∀ H4, Same H' H4 → R (.bl b) H4) → g x (wipe σ vs) H' fun σ2 H2 => wipe σ2 vs = wipe σ vs ∧ te σ2 H2 R)
    (hd : ∀ H, Same H1 H → H D = some (.lst (bs.map V.bl)) → Qd H) (gm : ∀ x σ H (Q Q' : L2.St → Hp → Prop), (∀ σ H, Q σ H → Q' σ H) → g x σ H Q → g x σ H Q') :
    ∃ W : Nat → Nat → Hp → Prop, (∃ m, W 0 m (upd H1 D (.lst []))) ∧ ∀ i m H, W i m H →
      (J.stop i H ∧ Qd H) ∨ (J.go i H ∧ ∃ Nx : Hp → Prop, (∀ H', Nx H' → ∃ m', m' < m ∧ W (i + 1) m' H') ∧ ∀ x H', J.yld i H x H' → g x (wipe σ vs) H' fun σ2 H2 => wipe σ2 vs = wipe σ vs ∧ tYes σ2 H2 fun b H3 =>
        if b = true then te σ2 H3 fun y H4 => ∃ acc, H4 D = some (.lst acc) ∧ acc.length < sizeLine ∧ Nx (upd H4 D (.lst (acc ++ [y]))) else Nx H3) := by
  refine lc_it w (fun i H => H D = some (.lst ((bs.take i).map V.bl)) ∧ Same H1 H) ⟨upd_same, same_new nD⟩ (fun i H _ p => hG H p.2) (fun i x H H' hi p y => ?_) fun H p => hd H p.2 (by rw [← hn, List.take_length] at p; exact p.1)
  obtain ⟨e, s⟩ := p
  have hb : bs[i]? = some bs[i] := List.getElem?_eq_getElem (by omega)
  refine (fun z => gm x _ _ _ _ (fun σ2 H2 z => ⟨z.1, z.2⟩) z) (hs i x H H' _ hi hb s y (fun y H4 => ∃ acc, H4 D = some (.lst acc) ∧ acc.length < sizeLine ∧ upd H4 D (.lst (acc ++ [y])) D = some (.lst ((bs.take (i + 1)).map V.bl)) ∧ Same H1 (upd H4 D (.lst (acc ++ [y])))) fun H4 s4 => ?_)
  have e4 := s4 _ _ (hY _ _ _ _ y _ _ e)
  refine ⟨_, e4, ?_, ?_, ?_⟩
  · rw [List.length_map, List.length_take]
    omega
  · rw [take_next hb, List.map_append]
    exact upd_same
  · exact same_upd ((s.trans (hY _ _ _ _ y)).trans s4) nD
end DQ

set_option Elab.async false
set_option linter.all false
set_option maxRecDepth 100000
set_option maxHeartbeats 4000000
namespace DQ
open PySem PySem.Spec PyProof.Rows L2
abbrev sIsWord : Stmt := topS 10
abbrev sSpelled : Stmt := topS 11
def letters : Str := "abcdefghijklmnopqrstuvwxyz"
def wordSigns : Str := "abcdefghijklmnopqrstuvwxyz0123456789"
def reserved : List Str := ["all", "and", "false", "in", "link", "mark", "not", "or", "same", "some", "true"]
/-- a text of 1 to 30 signs that are small letters or digits, the first a letter -/
def spelled (x : Str) : Bool := decide (1 ≤ x.length) && decide (x.length ≤ 30) && (x.cps.toList.head?.any fun c => decide (c ∈ letters.cps.toList)) && x.cps.toList.all fun c => decide (c ∈ wordSigns.cps.toList)
def wordB (x : Str) : Bool := spelled x && !inV (.str x) (reserved.map V.str)
theorem scIsWord : FnScope ["value"] ["value"] (defScope sIsWord) := ⟨rfl, rfl, rfl, by decide +kernel, rfl, by decide +kernel, by decide +kernel⟩
theorem scSpelled : FnScope ["text", "sign"] ["text"] (defScope sSpelled) := ⟨rfl, rfl, rfl, by decide +kernel, rfl, by decide +kernel, by decide +kernel⟩
section
variable {P : Program} {w : World} {K : PySem.W.Frag} {mg : Str → Option Value} {base : Heap}
def spSpelled : Sp := fun vs H Q _ => ∃ x : Str, vs = [.str x] ∧ x.length ≤ 1000 ∧ ∀ H', Same H H' → Q (.bl (spelled x)) H'
theorem ok_spelled {f : Addr} {fd : FuncData} {t1 t2 t3 : Tok} (F : Fun K "is_spelled" "is_spelled" sSpelled f fd) (mL : mg "LETTERS" = some (.str letters t1)) (mW : mg "WORD_SIGNS" = some (.str wordSigns t2)) (mM : mg "MOST_SIGNS" = some (.int 30 t3))
    (mLen : mg "len" = none) (mAll : mg "all" = none) : FnOk P w K mg base CX0 1 f fd ["text"] spSpelled := by
  refine F.ok scSpelled (fun vs H Q E h => ?_) (fun cdv A outer s H vs Q E hr h => ?_)
  · obtain ⟨x, rfl, _⟩ := h
    rfl
  obtain ⟨x, rfl, few, q⟩ := h
  have nd := scSpelled.nd
  refine ⟨_, (pss_cons (ps_if (PW.pt (pw_or (pt_not (pt_chain op_le op_le pe_int (pe_callB call_len_str (by rfl) mLen PySem.boot_len (pa_cons (pv 0) pa_nil)) (pe_glob (v := .int 30) (by rfl) mM ⟨_, rfl⟩))) (pw_or1 (pt_cmpR op_notIn_sign (pe_ix (r := rIxS) ix_str (pv 0) pe_int (fun _ _ => rfl)) (pe_glob (v := .str letters) (by rfl) mL ⟨_, rfl⟩) (by rfl))))) (pss_one (ps_ret pe_bl)) pss_nil)
    (pss_one (ps_ret (pe_callB (cr_all rfl) (by rfl) mAll (by decide +kernel) (pa_cons (pe_lc (own := [("sign", 1)]) (g := gName 1) (tt := tYes) rfl nd (pi_str (pv 0)) (blkOk_by (own := [("sign", 1)]) (N := ["text", "sign"]) (sc := defScope sSpelled) (by decide +kernel)) (fun _ _ _ _ _ => pg_name (i := 1) nd rfl (Or.inl rfl)) (fun _ _ _ _ _ => pts_nil) (fun _ _ _ _ _ => pe_cmpR op_in_sign (pv 1) (pe_glob (v := .str wordSigns) (by rfl) mW ⟨_, rfl⟩) (by rfl))) pa_nil))))), ?_⟩
  have end0 : spelled x = false → Q (.bl false) H := fun e => by
    have := q H (fun _ _ h => h)
    rwa [e] at this
  refine ⟨_, rfl, x, rfl, Nat.le_trans few (by decide), _, _, rfl, rfl, _, rfl, ite2 (fun c1 => ⟨_, _, rfl, rfl, _, rfl, ite2 (fun c2 => ?_) fun c2 => ?_⟩) fun c1 => ⟨_, rfl, ?_⟩⟩
  · -- too long
    refine end0 ?_
    have z : ¬ x.length ≤ 30 := fun z => by
      rw [decide_eq_true (show (x.length : Int) ≤ 30 by omega)] at c2
      exact absurd c2 (by decide)
    unfold spelled
    rw [decide_eq_false z, Bool.and_false, Bool.false_and, Bool.false_and]
  · have l1 : 1 ≤ x.length := by
      have := of_decide_eq_true c1
      omega
    have l2 : x.length ≤ 30 := by
      by_cases z : (x.length : Int) ≤ 30
      · omega
      · rw [decide_eq_false z] at c2
        exact absurd rfl c2
    obtain ⟨c, r, hx⟩ : ∃ c r, x.cps.toList = c :: r := by
      cases e : x.cps.toList with
      | nil =>
        have : x.length = 0 := by
          show x.cps.size = 0
          rw [← Array.length_toList, e]
          rfl
        omega
      | cons c r => exact ⟨c, r, rfl⟩
    have sp : spelled x = (decide (c ∈ letters.cps.toList) && x.cps.toList.all fun c => decide (c ∈ wordSigns.cps.toList)) := by
      unfold spelled
      rw [decide_eq_true l1, decide_eq_true l2, hx]
      rfl
    refine ⟨_, rfl, x, 0, c, rfl, rfl, Nat.le_trans few (by decide), by rw [hx]; exact atI_nat (j := 0) rfl, c, letters, rfl, rfl, _, rfl, ite2 (fun c3 => ?_) fun c3 => ?_⟩
    · refine end0 ?_
      rw [sp]
      cases h : decide (c ∈ letters.cps.toList) with
      | true =>
        rw [h] at c3
        exact absurd c3 (by decide)
      | false => rfl
    · have h : decide (c ∈ letters.cps.toList) = true := by
        cases h : decide (c ∈ letters.cps.toList) with
        | true => rfl
        | false =>
          rw [h] at c3
          exact absurd rfl c3
      rw [h, Bool.true_and] at sp
      refine ⟨_, rfl, x, rfl, fun D nD => lc_bools (walk_str (z := x)) (x.cps.toList.map fun c => decide (c ∈ wordSigns.cps.toList)) (by rw [List.length_map, Array.length_toList]) (Nat.lt_of_le_of_lt (show x.cps.size ≤ 1000 from few) (by decide)) nD (fun _ _ => trivial) (fun _ _ _ _ y => by rw [y.1]; exact fun _ _ h => h)
        (fun i v H2 H3 b hi hb s1 y R hR => ?_) (fun H2 s2 e2 => ?_) (fun _ _ _ _ _ m h => m _ _ h)⟩
      · obtain ⟨rfl, d, hd, rfl⟩ := y
        rw [List.getElem?_map, Array.getElem?_toList, hd] at hb
        cases hb
        exact ⟨rfl, _, rfl, d, wordSigns, rfl, rfl, hR _ fun _ _ h => h⟩
      · refine ⟨D, _, rfl, SqL.of e2, ?_⟩
        have e : (List.map (fun c => decide (c ∈ wordSigns.cps.toList)) x.cps.toList).any id = true ∨ True := .inr trivial
        rw [List.all_map]
        have := q H2 s2
        rw [sp] at this
        exact this
  · -- empty
    refine end0 ?_
    have z : ¬ 1 ≤ x.length := fun z => c1 (decide_eq_true (by omega))
    unfold spelled
    rw [decide_eq_false z]
    rfl
def spIsWord (K : PySem.W.Frag) : Sp := fun vs H Q _ => ∃ v, vs = [v] ∧ ((∃ x : Str, v = .str x ∧ x.length ≤ 1000 ∧ ∀ H', Same H H' → Q (.bl (wordB x)) H') ∨ ((∃ t, TyX K H v t ∧ PySem.W.kitOne K t (.type "str") = some false) ∧ Q (.bl false) H))
theorem ok_isWord {f fs r : Addr} {fd fds : FuncData} (F : Fun K "is_word" "is_word" sIsWord f fd) (GS : FnOk P w K mg base CX0 1 fs fds ["text"] spSpelled) (bS : Binds K fds ["text"] []) (kS : PySem.W.keepIn K (.ref fs) = true) (mS : mg "is_spelled" = some (.ref fs))
    (mI : mg "isinstance" = none) (mStr : mg "str" = none) (mR : mg "RESERVED" = some (.ref r)) (eR : ∀ H, SqT K H r (reserved.map V.str)) : FnOk P w K mg base CX0 2 f fd ["value"] (spIsWord K) := by
  refine F.ok scIsWord (fun vs H Q E h => ?_) (fun cdv A outer s H vs Q E hr h => ?_)
  · obtain ⟨x, rfl, _⟩ := h
    rfl
  obtain ⟨v, rfl, h⟩ := h
  refine ⟨_, pss_one (ps_ret (pe_and (pe_callB call_isi (by rfl) mI (by decide +kernel) (pa_cons (pv 0) (pa_cons (pe_bltn (v := .ty "str") (by rfl) mStr (by decide +kernel) rfl) pa_nil))) (pe_and (pe_call GS (hr.mono (by decide)) rfl mS kS bS .nil pass0 (pa_cons (pv 0) pa_nil)) (pe_one (pe_cmpR op_notIn_seq (pv 0) (pe_glob (v := .ref r) (by rfl) mR rfl) (by rfl)))))), ?_⟩
  rcases h with ⟨x, rfl, few, q⟩ | ⟨⟨t, ty, kt⟩, q⟩
  · refine ⟨_, rfl, .str x, .ty "str", _, _, true, rfl, .ty "str", .base (.str x), kit_ty (by decide +kernel), true, rfl, ?_⟩
    refine ⟨_, rfl, x, rfl, few, fun H' sm => ⟨_, rfl, ite2 (fun c => ?_) fun c => ?_⟩⟩
    · refine ⟨_, rfl, r, _, rfl, .inr (eR _), rfl, ?_, ?_⟩
      · decide
      · have := q H' sm
        unfold wordB at this
        rw [c, Bool.true_and] at this
        exact this
    · have := q H' sm
      unfold wordB at this
      rw [Bool.eq_false_iff.mpr c, Bool.false_and] at this
      exact this
  · exact ⟨_, rfl, v, .ty "str", _, _, false, rfl, .ty "str", ty, kt, false, rfl, q⟩
end
end DQ

set_option Elab.async false
set_option linter.all false
set_option maxRecDepth 100000
set_option maxHeartbeats 4000000
namespace DQ
open PySem PySem.Spec PyProof.Rows L2
/-! ### data on the heap -/
theorem Same.seqT {K : PySem.W.Frag} {H H' : Hp} {a : Addr} {xs : List V} (e : Same H H') (h : SqT K H a xs) : SqT K H' a xs := by
  rcases h with (h | ⟨o, h⟩) | h
  · exact .inl (.inl (e _ _ h))
  · exact .inl (.inr ⟨o, e _ _ h⟩)
  · exact .inr h
mutual
theorem dp_same {K : PySem.W.Frag} {H H' : Hp} (e : Same H H') : ∀ (d : PyData) (v : V), Dp K H v d → Dp K H' v d
  | .none, _, h => by cases h; exact .non
  | .bool b, _, h => by cases h; exact .bl b
  | .int i, _, h => by cases h; exact .int i
  | .str x, _, h => by cases h; exact .str x
  | .list ds, _, h => by
    cases h with
    | lst h a => exact .lst (L2.Same.seq e h) (dpAll_same e ds _ a)
  | .tuple ds, _, h => by
    cases h with
    | tup h a => exact .tup (DQ.Same.seqT e h) (dpAll_same e ds _ a)
  | .dict _, _, h => by
    cases h with
    | dct h => exact .dct (e _ _ h)
theorem dpAll_same {K : PySem.W.Frag} {H H' : Hp} (e : Same H H') : ∀ (ds : List PyData) (vs : List V), DpAll K H vs ds → DpAll K H' vs ds
  | [], _, h => by cases h; exact .nil
  | d :: ds, _, h => by
    cases h with
    | cons a b => exact .cons (dp_same e d _ a) (dpAll_same e ds _ b)
end
theorem dpAll_len {K : PySem.W.Frag} {H : Hp} : ∀ {vs : List V} {ds : List PyData}, DpAll K H vs ds → vs.length = ds.length
  | _, _, .nil => rfl
  | _, _, .cons _ t => congrArg Nat.succ (dpAll_len t)
theorem dpAll_at {K : PySem.W.Frag} {H : Hp} : ∀ {vs : List V} {ds : List PyData} {i : Nat} {v : V}, DpAll K H vs ds → vs[i]? = some v → ∃ d, ds[i]? = some d ∧ Dp K H v d
  | _, _, _, _, .nil, h => by simp at h
  | _, _, 0, _, .cons a _, h => by
    cases h
    exact ⟨_, rfl, a⟩
  | _, _, i + 1, _, .cons _ t, h => dpAll_at (i := i) t (by simpa using h)
theorem dpAll_get {K : PySem.W.Frag} {H : Hp} {vs : List V} {ds : List PyData} {i : Nat} {v : V} {d : PyData} (a : DpAll K H vs ds) (h : vs[i]? = some v) (hd : ds[i]? = some d) : Dp K H v d := by
  obtain ⟨e, he, q⟩ := dpAll_at a h
  rw [hd] at he
  cases he
  exact q
/-- the name of its type -/
def tyN : PyData → String
  | .none => "NoneType"
  | .bool _ => "bool"
  | .int _ => "int"
  | .str _ => "str"
  | .list _ => "list"
  | .tuple _ => "tuple"
  | .dict _ => "dict"
theorem dp_ty {K : PySem.W.Frag} {H : Hp} {v : V} {d : PyData} (h : Dp K H v d) : TyX K H v (.type (tyN d)) := by
  cases h with
  | non => exact .base .non
  | bl b => exact .base (.bl b)
  | int i => exact .base (.int i)
  | str x => exact .base (.str x)
  | lst h _ =>
    rcases h with (h | ⟨o, h⟩) | ⟨o, _, _, h, c, _⟩
    · exact .base (.lst h)
    · exact .base (.frz h)
    · exact .kList h c
  | tup h _ =>
    rcases h with (h | ⟨o, h⟩) | ⟨o, _, _, h, c, _⟩
    · exact .base (.tup h)
    · exact .fTuple h
    · exact .kTuple h c
  | dct h => exact .base (.dK h)
/-- isinstance(d, T) -/
def isTN (T n : String) : Bool := n == T || (n == "bool" && T == "int")
def isT (T : String) (d : PyData) : Bool := isTN T (tyN d)
def tyNames : List String := ["NoneType", "bool", "int", "str", "list", "tuple", "dict"]
theorem kit_names : ∀ T ∈ ["int", "bool", "str", "list", "tuple"], ∀ n ∈ tyNames, kitB n T = some (isTN T n) := by decide +kernel
theorem tyN_mem : ∀ d : PyData, tyN d ∈ tyNames
  | .none => by unfold tyN tyNames; simp
  | .bool _ => by unfold tyN tyNames; simp
  | .int _ => by unfold tyN tyNames; simp
  | .str _ => by unfold tyN tyNames; simp
  | .list _ => by unfold tyN tyNames; simp
  | .tuple _ => by unfold tyN tyNames; simp
  | .dict _ => by unfold tyN tyNames; simp
theorem kit_data {K : PySem.W.Frag} {T : String} (hT : T ∈ ["int", "bool", "str", "list", "tuple"]) (d : PyData) : PySem.W.kitOne K (.type (tyN d)) (.type T) = some (isT T d) :=
  kit_ty (kit_names T hT _ (tyN_mem d))
/-- x < y of alike data -/
def rLtD (K : PySem.W.Frag) : R2 := fun x y H Q => ∃ d e, Dp K H x d ∧ Dp K H y e ∧ PySem.W.alike d e = true ∧ d ≠ .none ∧ d.depth ≤ 8 ∧ Q (.bl (PySem.W.dataLt d e)) H
theorem op_ltD {X : Cx} (hu : X.A.units + 64 < cLine) : OpR X (compareOp .Lt) (rLtD X.K) := by
  intro pins s σ H x y v u Q I rx ry h
  obtain ⟨d, e, hd, he, al, nn, dep, q⟩ := h
  obtain ⟨as, r1⟩ := Dp.reads I d x v hd rx
  obtain ⟨bs, r2⟩ := Dp.reads I e y u he ry
  exact PySem.W.rcLt_alike d e X.A s v u as bs r1 r2 al nn (by have := Nat.min_le_left d.depth e.depth; omega) X.prog X.w _ _ ⟨.bl _, H, I, rfl, q⟩
end DQ

set_option Elab.async false
set_option linter.all false
set_option maxRecDepth 100000
set_option maxHeartbeats 4000000
namespace DQ
open PySem PySem.Spec PyProof.Rows L2
abbrev sWhole : Stmt := topS 17
abbrev sBetween : Stmt := topS 18
abbrev sNumber : Stmt := topS 19
abbrev sWords : Stmt := topS 20
abbrev sMarks : Stmt := topS 21
abbrev sColumns : Stmt := topS 22
abbrev sNumbers : Stmt := topS 23
theorem scWhole : FnScope ["value"] ["value"] (defScope sWhole) := ⟨rfl, rfl, rfl, by decide +kernel, rfl, by decide +kernel, by decide +kernel⟩
theorem scBetween : FnScope ["value", "least", "most"] ["value", "least", "most"] (defScope sBetween) := ⟨rfl, rfl, rfl, by decide +kernel, rfl, by decide +kernel, by decide +kernel⟩
theorem scNumber : FnScope ["value"] ["value"] (defScope sNumber) := ⟨rfl, rfl, rfl, by decide +kernel, rfl, by decide +kernel, by decide +kernel⟩
theorem scWords : FnScope ["value", "most", "word"] ["value", "most"] (defScope sWords) := ⟨rfl, rfl, rfl, by decide +kernel, rfl, by decide +kernel, by decide +kernel⟩
theorem scMarks : FnScope ["value"] ["value"] (defScope sMarks) := ⟨rfl, rfl, rfl, by decide +kernel, rfl, by decide +kernel, by decide +kernel⟩
theorem scColumns : FnScope ["marks", "value", "word"] ["marks", "value"] (defScope sColumns) := ⟨rfl, rfl, rfl, by decide +kernel, rfl, by decide +kernel, by decide +kernel⟩
theorem scNumbers : FnScope ["value", "item"] ["value"] (defScope sNumbers) := ⟨rfl, rfl, rfl, by decide +kernel, rfl, by decide +kernel, by decide +kernel⟩
def numD : PyData → Bool
  | .int i => decide (0 ≤ i) && decide (i ≤ 1000000000)
  | _ => false
def numsD : PyData → Bool
  | .list ds => ds.all numD
  | _ => false
def wordD : PyData → Bool
  | .str x => wordB x
  | _ => false
def textD : PyData → Option Str
  | .str x => some x
  | _ => none
def texts (ds : List PyData) : List Str := ds.filterMap textD
def wordsD (m : Nat) : PyData → Bool
  | .list ds => decide (ds.length ≤ m) && (ds.all wordD && decide (differ (texts ds) ds.length = ds.length))
  | _ => false
/-- no text of more than 1000 signs -/
def Short (d : PyData) : Prop := ∀ x, d = .str x → x.length ≤ 1000
/-- a list is of at most 10000 items, no text among them of more than 1000 signs -/
def Fits (d : PyData) : Prop := ∀ ds, d = .list ds → ds.length ≤ 10000 ∧ ∀ e ∈ ds, Short e
theorem texts_all {K : PySem.W.Frag} {H : Hp} : ∀ {vs : List V} {ds : List PyData}, DpAll K H vs ds → ds.all wordD = true → vs = (texts ds).map V.str ∧ (texts ds).length = ds.length
  | _, _, .nil, _ => ⟨rfl, rfl⟩
  | v :: vs, d :: ds, .cons a t, h => by
    rw [List.all_cons, Bool.and_eq_true] at h
    obtain ⟨h1, h2⟩ := h
    obtain ⟨e, l⟩ := texts_all t h2
    cases a with
    | str x =>
      unfold texts at e l ⊢
      rw [List.filterMap_cons_some (f := textD) (a := .str x) (b := x) rfl, List.map_cons, ← e, List.length_cons, l]
      exact ⟨rfl, rfl⟩
    | _ => cases h1
theorem all_at {f : PyData → Bool} {ds : List PyData} {i : Nat} {b : Bool} (h : (ds.map f)[i]? = some b) : ∃ d, ds[i]? = some d ∧ b = f d := by
  rw [List.getElem?_map] at h
  obtain ⟨x, hx, e⟩ := Option.map_eq_some_iff.mp h
  exact ⟨x, hx, e.symm⟩
section
variable {P : Program} {w : World} {K : PySem.W.Frag} {mg : Str → Option Value} {base : Heap}
/-- an int, no flag -/
def wholeD : PyData → Bool
  | .int _ => true
  | _ => false
/-- an int within bounds -/
def betweenD (a b : Int) : PyData → Bool
  | .int i => decide (a ≤ i) && decide (i ≤ b)
  | _ => false
def spWhole (K : PySem.W.Frag) : Sp := fun vs H Q _ => ∃ (v : V) (d : PyData), vs = [v] ∧ Dp K H v d ∧ Q (.bl (wholeD d)) H
theorem ok_whole {f : Addr} {fd : FuncData} (F : Fun K "is_whole" "is_whole" sWhole f fd) (mI : mg "isinstance" = none) (mInt : mg "int" = none) (mBool : mg "bool" = none) :
    FnOk P w K mg base CX0 1 f fd ["value"] (spWhole K) := by
  refine F.ok scWhole (fun vs H Q E h => ?_) (fun cdv A outer s H vs Q E hr h => ?_)
  · obtain ⟨v, d, rfl, _⟩ := h
    rfl
  obtain ⟨v, d, rfl, hd, q⟩ := h
  refine ⟨_, pss_one (ps_ret (pe_and (pe_callB call_isi (by rfl) mI (by decide +kernel) (pa_cons (pv 0) (pa_cons (pe_bltn (v := .ty "int") (by rfl) mInt (by decide +kernel) rfl) pa_nil)))
    (pe_one (pe_not (pe_callB call_isi (by rfl) mI (by decide +kernel) (pa_cons (pv 0) (pa_cons (pe_bltn (v := .ty "bool") (by rfl) mBool (by decide +kernel) rfl) pa_nil))))))), ?_⟩
  have ty := dp_ty hd
  refine ⟨_, rfl, v, .ty "int", _, _, _, rfl, .ty "int", ty, kit_data (by simp) d, _, rfl, ite2 (fun c1 => ⟨_, rfl, v, .ty "bool", _, _, _, rfl, .ty "bool", ty, kit_data (by simp) d, _, rfl, ?_⟩) fun c1 => ?_⟩
  · cases hd with
    | int i => exact q
    | bl b => exact q
    | _ => exact absurd c1 (by simp only [isT, tyN]; decide)
  · have : wholeD d = false := by
      cases hd with
      | int i => exact absurd rfl c1
      | _ => rfl
    rw [this] at q
    exact q
def spBetween (K : PySem.W.Frag) : Sp := fun vs H Q _ => ∃ (v : V) (d : PyData) (a b : Int), vs = [v, .int a, .int b] ∧ Dp K H v d ∧ Q (.bl (betweenD a b d)) H
theorem ok_between {f fw : Addr} {fd fdw : FuncData} (F : Fun K "is_between" "is_between" sBetween f fd) (GW : FnOk P w K mg base CX0 1 fw fdw ["value"] (spWhole K)) (bW : Binds K fdw ["value"] []) (kW : PySem.W.keepIn K (.ref fw) = true) (mW : mg "is_whole" = some (.ref fw)) :
    FnOk P w K mg base CX0 2 f fd ["value", "least", "most"] (spBetween K) := by
  refine F.ok scBetween (fun vs H Q E h => ?_) (fun cdv A outer s H vs Q E hr h => ?_)
  · obtain ⟨v, d, a, b, rfl, _⟩ := h
    rfl
  obtain ⟨v, d, a, b, rfl, hd, q⟩ := h
  refine ⟨_, pss_one (ps_ret (pe_and (pe_call GW (hr.mono (by decide)) rfl mW kW bW .nil pass0 (pa_cons (pv 0) pa_nil)) (pe_one (pe_chain op_le op_le (pv 1) (pv 0) (pv 2))))), ?_⟩
  refine ⟨_, rfl, v, d, rfl, hd, _, rfl, ite2 (fun c2 => ?_) fun c2 => ?_⟩
  · cases hd with
    | int i =>
      refine ⟨_, rfl, _, rfl, _, _, rfl, rfl, _, rfl, ite2 (fun c3 => ⟨_, rfl, _, _, rfl, rfl, ?_⟩) fun c3 => ?_⟩
      · have : betweenD a b (.int i) = decide (i ≤ b) := by
          show (decide (a ≤ i) && decide (i ≤ b)) = _
          rw [c3, Bool.true_and]
        rw [this] at q
        exact q
      · have : betweenD a b (.int i) = false := by
          show (decide (a ≤ i) && decide (i ≤ b)) = _
          rw [Bool.eq_false_iff.mpr c3, Bool.false_and]
        rw [this] at q
        exact q
    | _ => exact absurd c2 (by simp only [wholeD]; decide)
  · have : betweenD a b d = false := by
      cases hd with
      | int i => exact absurd rfl c2
      | _ => rfl
    rw [this] at q
    exact q
theorem num_between (d : PyData) : betweenD 0 1000000000 d = numD d := by cases d <;> rfl
def spNumber (K : PySem.W.Frag) : Sp := fun vs H Q _ => ∃ (v : V) (d : PyData), vs = [v] ∧ Dp K H v d ∧ Q (.bl (numD d)) H
theorem ok_number {f fb : Addr} {fd fdb : FuncData} {t1 : Tok} (F : Fun K "is_number" "is_number" sNumber f fd) (GB : FnOk P w K mg base CX0 2 fb fdb ["value", "least", "most"] (spBetween K)) (bB : Binds K fdb ["value", "least", "most"] []) (kB : PySem.W.keepIn K (.ref fb) = true) (mB : mg "is_between" = some (.ref fb))
    (mM : mg "MOST_NUMBER" = some (.int 1000000000 t1)) : FnOk P w K mg base CX0 3 f fd ["value"] (spNumber K) := by
  refine F.ok scNumber (fun vs H Q E h => ?_) (fun cdv A outer s H vs Q E hr h => ?_)
  · obtain ⟨v, d, rfl, _⟩ := h
    rfl
  obtain ⟨v, d, rfl, hd, q⟩ := h
  refine ⟨_, pss_one (ps_ret (pe_call GB (hr.mono (by decide)) rfl mB kB bB .nil pass0 (pa_cons (pv 0) (pa_cons pe_int (pa_cons (pe_glob (v := .int 1000000000) (by rfl) mM ⟨_, rfl⟩) pa_nil))))), ?_⟩
  refine ⟨_, rfl, v, d, 0, 1000000000, rfl, hd, ?_⟩
  rw [num_between]
  exact q
def spNumbers (K : PySem.W.Frag) : Sp := fun vs H Q _ => ∃ (v : V) (d : PyData), vs = [v] ∧ Dp K H v d ∧ Fits d ∧ ∀ H', Same H H' → Q (.bl (numsD d)) H'
theorem ok_numbers {f fn : Addr} {fd fdn : FuncData} (F : Fun K "are_numbers" "are_numbers" sNumbers f fd) (GN : FnOk P w K mg base CX0 3 fn fdn ["value"] (spNumber K)) (bN : Binds K fdn ["value"] []) (kN : PySem.W.keepIn K (.ref fn) = true) (mN : mg "is_number" = some (.ref fn))
    (mI : mg "isinstance" = none) (mList : mg "list" = none) (mAll : mg "all" = none) : FnOk P w K mg base CX0 4 f fd ["value"] (spNumbers K) := by
  refine F.ok scNumbers (fun vs H Q E h => ?_) (fun cdv A outer s H vs Q E hr h => ?_)
  · obtain ⟨v, d, rfl, _⟩ := h
    rfl
  obtain ⟨v, d, rfl, hd, fit, q⟩ := h
  have nd := scNumbers.nd
  refine ⟨_, pss_one (ps_ret (pe_and (pe_callB call_isi (by rfl) mI (by decide +kernel) (pa_cons (pv 0) (pa_cons (pe_bltn (v := .ty "list") (by rfl) mList (by decide +kernel) rfl) pa_nil)))
    (pe_one (pe_callB (cr_all rfl) (by rfl) mAll (by decide +kernel) (pa_cons (pe_lc (own := [("item", 1)]) (g := gName 1) (tt := tYes) rfl nd (pi_list (pv 0)) (blkOk_by (own := [("item", 1)]) (N := ["value", "item"]) (sc := defScope sNumbers) (by decide +kernel)) (fun _ _ _ _ _ => pg_name (i := 1) nd rfl (Or.inl rfl)) (fun _ _ _ _ _ => pts_nil)
      (fun _ _ _ _ _ => pe_call GN (hr.mono (by decide)) rfl mN kN bN .nil pass0 (pa_cons (pv 1) pa_nil))) pa_nil))))), ?_⟩
  have ty := dp_ty hd
  refine ⟨_, rfl, v, .ty "list", _, _, _, rfl, .ty "list", ty, kit_data (by simp) d, _, rfl, ite2 (fun c1 => ?_) fun c1 => ?_⟩
  · cases hd with
    | @lst a xs ds hs ha =>
      have len := dpAll_len ha
      obtain ⟨few, _⟩ := fit ds rfl
      refine ⟨_, rfl, a, rfl, ⟨_, hs⟩, fun D nD => lc_bools (walk_list (K := K) (a := a) (xs := xs)) (ds.map numD) (by rw [List.length_map, len]) (Nat.lt_of_le_of_lt (show xs.length ≤ 10000 by rw [len]; exact few) (by decide)) nD (fun _ s1 => L2.Same.seq s1 hs) (fun _ _ _ _ y => by rw [y.1]; exact fun _ _ h => h)
        (fun i v H2 H3 b hi hb s1 y R hR => ?_) (fun H2 s2 e2 => ?_) (fun _ _ _ _ _ m h => m _ _ h)⟩
      · obtain ⟨rfl, hv⟩ := y
        obtain ⟨e, he, rfl⟩ := all_at hb
        exact ⟨rfl, _, rfl, v, e, rfl, dp_same s1 _ _ (dpAll_get ha hv he), hR _ fun _ _ h => h⟩
      · refine ⟨D, _, rfl, SqL.of e2, ?_⟩
        rw [List.all_map]
        exact q H2 s2
    | _ => exact absurd c1 (by simp only [isT, tyN]; decide)
  · have : numsD d = false := by
      cases hd with
      | lst hs ha => exact absurd rfl c1
      | _ => rfl
    have q := q H fun _ _ h => h
    rw [this] at q
    exact q
end
end DQ

set_option Elab.async false
set_option linter.all false
set_option maxRecDepth 100000
set_option maxHeartbeats 4000000
namespace DQ
open PySem PySem.Spec PyProof.Rows L2
theorem not_list {d : PyData} (h : isT "list" d = false) : ∀ ds, d ≠ .list ds := fun ds e => by
  rw [e] at h
  exact absurd h (by simp only [isT, tyN]; decide)
section
variable {P : Program} {w : World} {K : PySem.W.Frag} {mg : Str → Option Value} {base : Heap}
def spWords (K : PySem.W.Frag) : Sp := fun vs H Q _ => ∃ (v : V) (d : PyData) (m : Nat), vs = [v, .int m] ∧ m ≤ 100 ∧ Dp K H v d ∧ Fits d ∧ ∀ H', Same H H' → Q (.bl (wordsD m d)) H'
theorem ok_words {f fn : Addr} {fd fdn : FuncData} (F : Fun K "are_words" "are_words" sWords f fd) (GW : FnOk P w K mg base CX0 2 fn fdn ["value"] (spIsWord K)) (bW : Binds K fdn ["value"] []) (kW : PySem.W.keepIn K (.ref fn) = true) (mW : mg "is_word" = some (.ref fn))
    (mI : mg "isinstance" = none) (mList : mg "list" = none) (mLen : mg "len" = none) (mSet : mg "set" = none) (mAll : mg "all" = none) : FnOk P w K mg base CX0 3 f fd ["value", "most"] (spWords K) := by
  refine F.ok scWords (fun vs H Q E h => ?_) (fun cdv A outer s H vs Q E hr h => ?_)
  · obtain ⟨v, d, m, rfl, _⟩ := h
    rfl
  obtain ⟨v, d, m, rfl, hm, hd, fit, q⟩ := h
  have nd := scWords.nd
  refine ⟨_, (pss_cons (ps_if (PW.pt (pw_or (pt_not (pt_val (pe_callB call_isi (by rfl) mI (by decide +kernel) (pa_cons (pv 0) (pa_cons (pe_bltn (v := .ty "list") (by rfl) mList (by decide +kernel) rfl) pa_nil)))))
      (pw_or1 (pt_cmpR op_gt (pe_callB call_len_seq (by rfl) mLen PySem.boot_len (pa_cons (pv 0) pa_nil)) (pv 1) (by rfl))))) (pss_one (ps_ret pe_bl)) pss_nil)
    (pss_one (ps_ret (pe_and (pe_callB (cr_all rfl) (by rfl) mAll (by decide +kernel) (pa_cons (pe_lc (own := [("word", 2)]) (g := gName 2) (tt := tYes) rfl nd (pi_list (pv 0)) (blkOk_by (own := [("word", 2)]) (N := ["value", "most", "word"]) (sc := defScope sWords) (by decide +kernel)) (fun _ _ _ _ _ => pg_name (i := 2) nd rfl (Or.inl rfl)) (fun _ _ _ _ _ => pts_nil)
      (fun _ _ _ _ _ => pe_call GW (hr.mono (by decide)) rfl mW kW bW .nil pass0 (pa_cons (pv 2) pa_nil))) pa_nil))
      (pe_one (pe_cmpR op_eq (pe_lenSetT rfl (by rfl) mLen (by rfl) mSet (pv 0)) (pe_callB call_len_seq (by rfl) mLen PySem.boot_len (pa_cons (pv 0) pa_nil)) (by rfl))))))), ?_⟩
  have ty := dp_ty hd
  refine ⟨_, rfl, v, .ty "list", _, _, _, rfl, .ty "list", ty, kit_data (by simp) d, ?_⟩
  refine ⟨_, rfl, ite2 (fun c1 => ?_) fun c1 => ?_⟩
  · have no : wordsD m d = false := by
      cases hd with
      | lst hs ha => exact absurd c1 (by simp only [isT, tyN]; decide)
      | _ => rfl
    have q := q H fun _ _ h => h
    rw [no] at q
    exact q
  cases hd with
  | @lst a xs ds hs ha =>
    have len := dpAll_len ha
    obtain ⟨few, short⟩ := fit ds rfl
    refine ⟨_, rfl, a, _, rfl, .inl hs, _, rfl, _, _, rfl, rfl, _, rfl, ite2 (fun c2 => ?_) fun c2 => ?_⟩
    · have no : wordsD m (.list ds) = false := by
        have c2 := of_decide_eq_true c2
        show (decide (ds.length ≤ m) && _) = false
        rw [decide_eq_false (by omega), Bool.false_and]
      have q := q H fun _ _ h => h
      rw [no] at q
      exact q
    have le : ds.length ≤ m := by
      have c2 := of_decide_eq_false (Bool.eq_false_iff.mpr c2)
      omega
    have yes : wordsD m (.list ds) = (ds.all wordD && decide (differ (texts ds) ds.length = ds.length)) := by
      show (decide (ds.length ≤ m) && _) = _
      rw [decide_eq_true le, Bool.true_and]
    rw [yes] at q
    refine ⟨_, rfl, a, rfl, ⟨_, hs⟩, fun D nD => lc_bools (walk_list (K := K) (a := a) (xs := xs)) (ds.map wordD) (by rw [List.length_map, len]) (Nat.lt_of_le_of_lt (show xs.length ≤ 10000 by rw [len]; exact few) (by decide)) nD (fun _ s1 => L2.Same.seq s1 hs) (fun _ _ _ _ y => by rw [y.1]; exact fun _ _ h => h)
        (fun i v H2 H3 b hi hb s1 y R hR => ?_) (fun H2 s2 e2 => ?_) (fun _ _ _ _ _ m h => m _ _ h)⟩
    · obtain ⟨rfl, hv⟩ := y
      obtain ⟨e, he, rfl⟩ := all_at hb
      have dv := dp_same s1 _ _ (dpAll_get ha hv he)
      refine ⟨rfl, _, rfl, v, rfl, ?_⟩
      cases dv with
      | str x => exact .inl ⟨x, rfl, short _ (List.mem_of_getElem? he) x rfl, fun H' sm => hR H' sm⟩
      | non => exact .inr ⟨⟨_, dp_ty (K := K) (d := .none) .non, kit_data (by simp) _⟩, hR _ fun _ _ h => h⟩
      | bl b => exact .inr ⟨⟨_, dp_ty (K := K) (d := .bool b) (.bl b), kit_data (by simp) _⟩, hR _ fun _ _ h => h⟩
      | int i => exact .inr ⟨⟨_, dp_ty (K := K) (d := .int i) (.int i), kit_data (by simp) _⟩, hR _ fun _ _ h => h⟩
      | lst h1 h2 => exact .inr ⟨⟨_, dp_ty (Dp.lst h1 h2), kit_data (by simp) _⟩, hR _ fun _ _ h => h⟩
      | tup h1 h2 => exact .inr ⟨⟨_, dp_ty (Dp.tup h1 h2), kit_data (by simp) _⟩, hR _ fun _ _ h => h⟩
      | dct h1 => exact .inr ⟨⟨_, dp_ty (Dp.dct h1), kit_data (by simp) _⟩, hR _ fun _ _ h => h⟩
    · refine ⟨D, _, rfl, SqL.of e2, _, rfl, ite2 (fun c3 => ?_) fun c3 => ?_⟩
      · rw [List.all_map] at c3
        have c3 : ds.all wordD = true := c3
        obtain ⟨et, lt⟩ := texts_all ha c3
        have hs2 := L2.Same.seq s2 hs
        refine ⟨_, rfl, a, texts ds, rfl, by rw [← et]; exact hs2, by omega, _, rfl, a, xs, rfl, .inl hs2, rfl, ?_⟩
        have q := q H2 s2
        rw [c3, Bool.true_and] at q
        rw [lt, len]
        have ee : decide (V.int ((differ (texts ds) ds.length : Nat) : Int) = V.int (ds.length : Nat)) = decide (differ (texts ds) ds.length = ds.length) := by
          by_cases z : differ (texts ds) ds.length = ds.length
          · rw [z]
            simp
          · rw [decide_eq_false z]
            exact decide_eq_false fun k => z (by injection k with k; omega)
        rw [ee]
        exact q
      · rw [List.all_map] at c3
        have q := q H2 s2
        rw [show ds.all wordD = false from Bool.eq_false_iff.mpr c3, Bool.false_and] at q
        exact q
  | _ => exact absurd rfl c1
def spMarks (K : PySem.W.Frag) (m : Nat) : Sp := fun vs H Q _ => ∃ (v : V) (d : PyData), vs = [v] ∧ Dp K H v d ∧ Fits d ∧ ∀ H', Same H H' → Q (.bl (wordsD m d)) H'
theorem ok_marks {f fn : Addr} {fd fdn : FuncData} {t1 : Tok} (F : Fun K "are_marks" "are_marks" sMarks f fd) (GW : FnOk P w K mg base CX0 3 fn fdn ["value", "most"] (spWords K)) (bW : Binds K fdn ["value", "most"] []) (kW : PySem.W.keepIn K (.ref fn) = true) (mW : mg "are_words" = some (.ref fn))
    (mM : mg "MOST_MARKS" = some (.int 4 t1)) : FnOk P w K mg base CX0 4 f fd ["value"] (spMarks K 4) := by
  refine F.ok scMarks (fun vs H Q E h => ?_) (fun cdv A outer s H vs Q E hr h => ?_)
  · obtain ⟨v, d, rfl, _⟩ := h
    rfl
  obtain ⟨v, d, rfl, hd, fit, q⟩ := h
  refine ⟨_, pss_one (ps_ret (pe_call GW (hr.mono (by decide)) rfl mW kW bW .nil pass0 (pa_cons (pv 0) (pa_cons (pe_glob (v := .int 4) (by rfl) mM ⟨_, rfl⟩) pa_nil)))), ?_⟩
  exact ⟨_, rfl, v, d, 4, rfl, by decide, hd, fit, q⟩
end
end DQ

set_option Elab.async false
set_option linter.all false
set_option maxRecDepth 100000
set_option maxHeartbeats 4000000
namespace DQ
open PySem PySem.Spec PyProof.Rows L2
def columnsD (ms : List Str) : PyData → Bool
  | .list ds => wordsD 2 (.list ds) && !(texts ds).any fun x => inV (.str x) (ms.map V.str)
  | _ => false
theorem columns_no {ms : List Str} {d : PyData} (h : wordsD 2 d = false) : columnsD ms d = false := by
  cases d with
  | list ds =>
    show (wordsD 2 (.list ds) && _) = false
    rw [h, Bool.false_and]
  | _ => rfl
theorem cut_drop {xs : List V} {k : Nat} : cutV xs (some (k : Int)) none = xs.drop k := by
  unfold cutV
  rw [HT.sIx_none, show HT.sIx xs.length 0 (some (k : Int)) = min k xs.length from HT.sIx_nat _ _ _]
  by_cases h : k ≤ xs.length
  · rw [Nat.min_eq_left h, List.take_of_length_le (by rw [List.length_drop]; exact Nat.le_refl _)]
  · rw [Nat.min_eq_right (by omega), Nat.sub_self, List.take_zero, List.drop_eq_nil_of_le (by omega)]
def ascB (ds : List PyData) : Bool := (ds.zip (ds.drop 1)).all fun p => PySem.W.dataLt p.1 p.2
section
variable {P : Program} {w : World} {K : PySem.W.Frag} {mg : Str → Option Value} {base : Heap}
def spColumns (K : PySem.W.Frag) : Sp := fun vs H Q _ => ∃ (ma : Addr) (ms : List Str) (v : V) (d : PyData), vs = [.ref ma, v] ∧ SqL K H ma (ms.map V.str) ∧ Dp K H v d ∧ Fits d ∧ ∀ H', Same H H' → Q (.bl (columnsD ms d)) H'
theorem ok_columns {f fn : Addr} {fd fdn : FuncData} {t1 : Tok} (F : Fun K "are_columns" "are_columns" sColumns f fd) (GW : FnOk P w K mg base CX0 3 fn fdn ["value", "most"] (spWords K)) (bW : Binds K fdn ["value", "most"] []) (kW : PySem.W.keepIn K (.ref fn) = true) (mW : mg "are_words" = some (.ref fn))
    (mM : mg "MOST_COLUMNS" = some (.int 2 t1)) (mAny : mg "any" = none) : FnOk P w K mg base CX0 4 f fd ["marks", "value"] (spColumns K) := by
  refine F.ok scColumns (fun vs H Q E h => ?_) (fun cdv A outer s H vs Q E hr h => ?_)
  · obtain ⟨ma, ms, v, d, rfl, _⟩ := h
    rfl
  obtain ⟨ma, ms, v, d, rfl, hma, hd, fit, q⟩ := h
  have nd := scColumns.nd
  refine ⟨_, pss_one (ps_ret (pe_and (pe_call GW (hr.mono (by decide)) rfl mW kW bW .nil pass0 (pa_cons (pv 1) (pa_cons (pe_glob (v := .int 2) (by rfl) mM ⟨_, rfl⟩) pa_nil)))
    (pe_one (pe_not (pe_callB (cr_any rfl) (by rfl) mAny (by decide +kernel) (pa_cons (pe_lc (own := [("word", 2)]) (g := gName 2) (tt := tYes) rfl nd (pi_list (pv 1)) (blkOk_by (own := [("word", 2)]) (N := ["marks", "value", "word"]) (sc := defScope sColumns) (by decide +kernel)) (fun _ _ _ _ _ => pg_name (i := 2) nd rfl (Or.inl rfl)) (fun _ _ _ _ _ => pts_nil)
      (fun _ _ _ _ _ => pe_cmpR (r := rIn K false) op_in_seq (pv 2) (pv 0) (by rfl))) pa_nil)))))), ?_⟩
  refine ⟨_, rfl, v, d, 2, rfl, by decide, hd, fit, fun H1 s1 => ⟨_, rfl, ite2 (fun c1 => ?_) fun c1 => ?_⟩⟩
  · cases hd with
    | @lst a xs ds hs ha =>
      obtain ⟨few, short⟩ := fit ds rfl
      have c1' : (decide (ds.length ≤ 2) && (ds.all wordD && decide (differ (texts ds) ds.length = ds.length))) = true := c1
      rw [Bool.and_eq_true, Bool.and_eq_true] at c1'
      obtain ⟨et, lt⟩ := texts_all ha c1'.2.1
      have hs1 := L2.Same.seq s1 hs
      rw [et] at hs1
      have yes : columnsD ms (.list ds) = !(texts ds).any fun x => inV (.str x) (ms.map V.str) := by
        show (wordsD 2 (.list ds) && _) = _
        rw [c1, Bool.true_and]
      rw [yes] at q
      refine ⟨_, rfl, a, rfl, ⟨_, hs1⟩, fun D nD => lc_bools (walk_list (K := K) (a := a) (xs := (texts ds).map V.str)) ((texts ds).map fun x => inV (.str x) (ms.map V.str)) (by rw [List.length_map, List.length_map]) (Nat.lt_of_le_of_lt (show ((texts ds).map V.str).length ≤ 10000 by rw [List.length_map, lt]; exact few) (by decide)) nD (fun _ s2 => L2.Same.seq s2 hs1) (fun _ _ _ _ y => by rw [y.1]; exact fun _ _ h => h)
        (fun i v H2 H3 b hi hb s2 y R hR => ?_) (fun H2 s2 e2 => ?_) (fun _ _ _ _ _ m h => m _ _ h)⟩
      · obtain ⟨rfl, hv⟩ := y
        obtain ⟨x, hx, rfl⟩ := at_map hv
        rw [List.getElem?_map, hx] at hb
        cases hb
        exact ⟨rfl, _, rfl, _, rfl, ma, _, rfl, .inl (L2.Same.seq (s1.trans s2) hma), rfl, flat_strs ms, hR _ fun _ _ h => h⟩
      · refine ⟨D, _, rfl, SqL.of e2, _, rfl, ?_⟩
        rw [List.any_map]
        exact q H2 (s1.trans s2)
    | _ => exact absurd c1 (by simp [wordsD])
  · have q := q H1 s1
    rw [columns_no (Bool.eq_false_iff.mpr c1)] at q
    exact q
end
end DQ

set_option Elab.async false
set_option linter.all false
set_option maxRecDepth 100000
set_option maxHeartbeats 400000
namespace DQ
open PySem PySem.Spec PyProof.Rows L2
abbrev sIsFact : Stmt := topS 24
abbrev NF : List Str := ["marks", "columns", "known", "value", "fits", "item"]
theorem scIsFact : FnScope NF ["marks", "columns", "known", "value"] (defScope sIsFact) := ⟨rfl, rfl, rfl, by decide +kernel, rfl, by decide +kernel, by decide +kernel⟩
def okItem (ns : List Int) (d : PyData) : Bool := numD d && match d with
  | .int i => decide (i ∈ ns)
  | _ => false
def hasD (ms : List Str) (b : PyData) : Bool := (ms.map PyData.str).any fun z => PyData.eqv z b
def isFactD (ms cs : List Str) (ns : List Int) : PyData → Bool
  | .tuple (a :: b :: r) => decide (r.length = 1 ∨ r.length = 2) && ((if r.length = 1 then PyData.eqv a (.str "mark") && hasD ms b else PyData.eqv a (.str "link") && hasD cs b) && r.all (okItem ns))
  | _ => false
/-- the parts of a tuple are of a shape that == takes -/
def Parts (d : PyData) : Prop := ∀ ds, d = .tuple ds → ∀ e ∈ ds.take 2, SeqAt.shaped e = true
theorem dp_texts {K : PySem.W.Frag} {H : Hp} : ∀ ms : List Str, DpAll K H (ms.map V.str) (ms.map PyData.str)
  | [] => .nil
  | x :: r => .cons (.str x) (dp_texts r)
theorem room65 {k : Nat} {A : Around} (r : Room k A) : A.units + 65 < cLine := by have := r.un; omega
theorem room1 {k : Nat} {A : Around} (r : Room k A) : A.units + 1 < cLine := by have := r.un; omega
/-- the dict of the items -/
def KnownAt (H : Hp) (ka : Addr) (ns : List Int) : Prop := ∃ kvs : List (Key × V), H ka = some (.dK kvs) ∧ ∀ i : Int, (valV kvs (.inl i)).isSome = decide (i ∈ ns)
theorem dpAll_two {K : PySem.W.Frag} {H : Hp} {xs : List V} {ds : List PyData} (h : DpAll K H xs ds) (l : 2 ≤ ds.length) : ∃ x0 x1 xr d0 d1 dr, xs = x0 :: x1 :: xr ∧ ds = d0 :: d1 :: dr ∧ Dp K H x0 d0 ∧ Dp K H x1 d1 ∧ DpAll K H xr dr := by
  cases h with
  | nil => exact absurd l (by decide)
  | cons a h =>
    cases h with
    | nil => exact absurd l (by simp)
    | cons b h => exact ⟨_, _, _, _, _, _, rfl, rfl, a, b, h⟩
theorem in_34 (n : Nat) : inV (.int (n : Int)) [.int 3, .int 4] = (decide (n = 3) || decide (n = 4)) := by
  show (((3 : Int) == (n : Int)) || (((4 : Int) == (n : Int)) || false)) = _
  rw [Bool.or_false]
  congr 1
  · by_cases h : n = 3
    · rw [h]; rfl
    · rw [decide_eq_false h]
      exact beq_eq_false_iff_ne.mpr fun e => h (by omega)
  · by_cases h : n = 4
    · rw [h]; rfl
    · rw [decide_eq_false h]
      exact beq_eq_false_iff_ne.mpr fun e => h (by omega)
theorem fact_no {ms cs : List Str} {ns : List Int} {ds : List PyData} (h : ¬ (ds.length = 3 ∨ ds.length = 4)) : isFactD ms cs ns (.tuple ds) = false := by
  match ds, h with
  | [], _ => rfl
  | [_], _ => rfl
  | a :: b :: r, h =>
    show (decide (r.length = 1 ∨ r.length = 2) && _) = false
    rw [decide_eq_false (fun z => h (by simp only [List.length_cons]; omega)), Bool.false_and]
section
variable {P : Program} {w : World} {K : PySem.W.Frag} {mg : Str → Option Value} {base : Heap}
def spIsFact (K : PySem.W.Frag) : Sp := fun vs H Q _ => ∃ (ma ca ka : Addr) (ms cs : List Str) (ns : List Int) (v : V) (d : PyData), vs = [.ref ma, .ref ca, .ref ka, v] ∧ SqL K H ma (ms.map V.str) ∧ SqL K H ca (cs.map V.str) ∧ SeqAt.shaped (.list (ms.map PyData.str)) = true ∧ SeqAt.shaped (.list (cs.map PyData.str)) = true ∧
  KnownAt H ka ns ∧ Dp K H v d ∧ Parts d ∧ ∀ H', Same H H' → Q (.bl (isFactD ms cs ns d)) H'
theorem ok_isFact {f fn : Addr} {fd fdn : FuncData} (F : Fun K "is_fact" "is_fact" sIsFact f fd) (GN : FnOk P w K mg base CX0 3 fn fdn ["value"] (spNumber K)) (bN : Binds K fdn ["value"] []) (kN : PySem.W.keepIn K (.ref fn) = true) (mN : mg "is_number" = some (.ref fn))
    (mI : mg "isinstance" = none) (mTuple : mg "tuple" = none) (mLen : mg "len" = none) (mAll : mg "all" = none) : FnOk P w K mg base CX0 4 f fd ["marks", "columns", "known", "value"] (spIsFact K) := by
  refine F.ok scIsFact (fun vs H Q E h => ?_) (fun cdv A outer s H vs Q E hr h => ?_)
  · obtain ⟨_, _, _, _, _, _, _, _, rfl, _⟩ := h
    rfl
  obtain ⟨ma, ca, ka, ms, cs, ns, v, d, rfl, hma, hca, lm, lc, hk, hd, pd, q⟩ := h
  have nd := scIsFact.nd
  refine ⟨_, (pss_cons (ps_if (PW.pt (pw_or (pt_not (pt_val (pe_callB call_isi (by rfl) mI (by decide +kernel) (pa_cons (pv 3) (pa_cons (pe_bltn (v := .ty "tuple") (by rfl) mTuple (by decide +kernel) rfl) pa_nil)))))
      (pw_or1 (pt_cmpR op_notIn_seq (pe_callB call_len_seq (by rfl) mLen PySem.boot_len (pa_cons (pv 3) pa_nil)) (pe_tup (pa_cons pe_int (pa_cons pe_int pa_nil))) (by rfl))))) (pss_one (ps_ret pe_bl)) pss_nil)
    (pss_cons (ps_if (pt_cmpR op_eq (pe_callB call_len_seq (by rfl) mLen PySem.boot_len (pa_cons (pv 3) pa_nil)) pe_int (nomark _))
      (pss_one (ps_set (i := 4) nd rfl (.inl rfl) (pe_and (pe_cmpR (op_eqD hr.units) (pe_ix (r := rIxT K) ix_tup (pv 3) pe_int (fun _ _ => rfl)) pe_str (nomark _)) (pe_one (pe_cmpR (op_inD (room65 hr)) (pe_ix (r := rIxT K) ix_tup (pv 3) pe_int (fun _ _ => rfl)) (pv 0) (by rfl))))))
      (pss_one (ps_set (i := 4) nd rfl (.inl rfl) (pe_and (pe_cmpR (op_eqD hr.units) (pe_ix (r := rIxT K) ix_tup (pv 3) pe_int (fun _ _ => rfl)) pe_str (nomark _)) (pe_one (pe_cmpR (op_inD (room65 hr)) (pe_ix (r := rIxT K) ix_tup (pv 3) pe_int (fun _ _ => rfl)) (pv 1) (by rfl)))))))
    (pss_one (ps_ret (pe_and (pv 4) (pe_one (pe_callB (cr_all rfl) (by rfl) mAll (by decide +kernel) (pa_cons (pe_lc (own := [("item", 5)]) (g := gName 5) (tt := tYes) rfl nd (pi_tup (pe_slice sl_tup (pv 3) (po_some pe_int) po_none)) (blkOk_by (own := [("item", 5)]) (N := NF) (sc := defScope sIsFact) (by decide +kernel)) (fun _ _ _ _ _ => pg_name (i := 5) nd rfl (Or.inl rfl)) (fun _ _ _ _ _ => pts_nil)
      (fun _ _ _ _ _ => pe_and (pe_call GN (hr.mono (by decide)) rfl mN kN bN .nil pass0 (pa_cons (pv 5) pa_nil)) (pe_one (pe_cmp (pc_din (room1 hr) (pv 5) (pv 2)) (by rfl))))) pa_nil)))))))), ?_⟩
  have ty := dp_ty hd
  refine ⟨_, rfl, v, .ty "tuple", _, _, _, rfl, .ty "tuple", ty, kit_data (by simp) d, _, rfl, ite2 (fun c1 => ?_) fun c1 => ?_⟩
  · have no : isFactD ms cs ns d = false := by
      cases hd with
      | tup hs ha => exact absurd c1 (by simp only [isT, tyN]; decide)
      | _ => rfl
    have q := q H fun _ _ h => h
    rw [no] at q
    exact q
  cases hd with
  | @tup a xs ds hs ha =>
    have len := dpAll_len ha
    refine ⟨_, rfl, a, _, rfl, .inr hs, by show 2 ≤ sizeLine; decide, fun T nT => ?_⟩
    have mT := same_new nT (o := .tup [.int 3, .int 4])
    have eT : upd H T (.tup [.int 3, .int 4]) T = some (.tup [.int 3, .int 4]) := upd_same
    generalize upd H T (.tup [.int 3, .int 4]) = H1 at mT eT ⊢
    refine ⟨T, _, rfl, .inr (.inl (.inl eT)), rfl, rfl, _, rfl, ite2 (fun c2 => ?_) fun c2 => ?_⟩
    · have c2 : (!inV (.int (xs.length : Nat)) [.int 3, .int 4]) = true := c2
      rw [in_34, len] at c2
      have q := q H1 mT
      rw [fact_no (fun z => by
        rcases z with z | z
        · rw [z] at c2; exact absurd c2 (by decide)
        · rw [z] at c2; exact absurd c2 (by decide))] at q
      exact q
    have c2 : ¬ (!inV (.int (xs.length : Nat)) [.int 3, .int 4]) = true := c2
    rw [in_34, len] at c2
    have l34 : ds.length = 3 ∨ ds.length = 4 := by
      by_cases h3 : ds.length = 3
      · exact .inl h3
      · by_cases h4 : ds.length = 4
        · exact .inr h4
        · rw [decide_eq_false h3, decide_eq_false h4] at c2
          exact absurd rfl c2
    obtain ⟨x0, x1, xr, d0, d1, dr, ex, ed, a0, a1, ar⟩ := dpAll_two ha (by omega)
    have hs1 := DQ.Same.seqT mT hs
    rw [ex] at hs1
    have s0 : SeqAt.shaped d0 = true := pd _ rfl d0 (by rw [ed]; exact List.mem_cons_self ..)
    have s1 : SeqAt.shaped d1 = true := pd _ rfl d1 (by rw [ed]; exact List.mem_cons_of_mem _ (List.mem_cons_self ..))
    have at0 : atI (x0 :: x1 :: xr) 0 = some x0 := atI_nat (j := 0) rfl
    have at1 : atI (x0 :: x1 :: xr) 1 = some x1 := atI_nat (j := 1) rfl
    have lr : dr.length = 1 ∨ dr.length = 2 := by
      rw [ed] at l34
      simp only [List.length_cons] at l34
      omega
    have lx : xr.length = dr.length := dpAll_len ar
    refine ⟨_, rfl, a, _, rfl, .inr hs1, rfl, _, rfl, ite2 (fun c3 => ?_) fun c3 => ?_⟩
    · have yes : isFactD ms cs ns (.tuple ds) = ((PyData.eqv d0 (.str "mark") && hasD ms d1) && dr.all (okItem ns)) := by
        have e1 : (dr.length = 1) = True := by
          exact eq_true (by have c3 := of_decide_eq_true c3; injection c3 with c3; rw [List.length_cons, List.length_cons, lx] at c3; omega)
        rw [ed]
        show (decide (dr.length = 1 ∨ dr.length = 2) && ((if dr.length = 1 then _ else _) && _)) = _
        rw [decide_eq_true lr, Bool.true_and, if_pos (of_eq_true e1)]
      rw [yes] at q
      refine ⟨_, rfl, a, _, 0, x0, rfl, rfl, hs1, at0, d0, .str "mark", dp_same mT _ _ a0, .str _, s0, by decide +kernel, _, rfl, ite2 (fun c4 => ?_) fun c4 => ?_⟩
      · refine ⟨_, rfl, a, _, 1, x1, rfl, rfl, hs1, at1, _, rfl, d1, ms.map PyData.str, dp_same mT _ _ a1, .lst (L2.Same.seq mT hma) (dp_texts ms), s1, lm, ?_⟩
        rw [c4, Bool.true_and] at q
        refine ⟨_, rfl, hasD ms d1, rfl, ite2 (fun c5 => ?_) fun c5 => ?_⟩
        · rw [c5, Bool.true_and] at q
          refine ⟨_, rfl, _, rfl, a, _, rfl, hs1, fun z => ?_, fun p np => ?_⟩
          · have z := z.1
            rw [show (some (2 : Int)) = some ((2 : Nat) : Int) from rfl, HT.sIx_nat] at z
            simp only [List.length_cons] at z
            omega
          rw [show (some (2 : Int)) = some ((2 : Nat) : Int) from rfl, cut_drop]
          have mp := same_new np (o := .tup ((x0 :: x1 :: xr).drop 2))
          have ep : upd H1 p (.tup ((x0 :: x1 :: xr).drop 2)) p = some (.tup xr) := upd_same
          generalize upd H1 p (.tup ((x0 :: x1 :: xr).drop 2)) = H2 at mp ep ⊢
          have all2 : L2.Same H H2 := mT.trans mp
          refine ⟨p, rfl, ⟨_, .inl (.inl ep)⟩, fun D nD => lc_bools (walk_tup (K := K) (a := p) (xs := xr)) (dr.map (okItem ns)) (by rw [List.length_map, lx]) (Nat.lt_of_le_of_lt (show xr.length ≤ 2 by omega) (by decide)) nD (fun _ s2 => .inl (.inl (s2 _ _ ep))) (fun _ _ _ _ y => by rw [y.1]; exact fun _ _ h => h)
            (fun i v H3 H4 b hi hb s2 y R hR => ?_) (fun H3 s3 e3 => ?_) (fun _ _ _ _ _ m h => m _ _ h)⟩
          · obtain ⟨rfl, hv⟩ := y
            obtain ⟨e, he, rfl⟩ := all_at hb
            have dv := dp_same (all2.trans s2) _ _ (dpAll_get ar hv he)
            refine ⟨rfl, _, rfl, v, e, rfl, dv, _, rfl, ite2 (fun c6 => ?_) fun c6 => ?_⟩
            · cases dv with
              | int i =>
                obtain ⟨kvs, ek, iff⟩ := hk
                refine ⟨_, rfl, _, rfl, ka, _, rfl, .inl ⟨kvs, .inl i, .inl ((all2.trans s2) _ _ ek), rfl, rfl⟩, ?_⟩
                have z := hR _ fun _ _ h => h
                have eo : okItem ns (.int i) = (valV kvs (.inl i)).isSome := by
                  show (numD (.int i) && decide (i ∈ ns)) = _
                  rw [c6, Bool.true_and, iff]
                rw [eo] at z
                exact z
              | _ => exact absurd c6 (by simp [numD])
            · have z := hR _ fun _ _ h => h
              have eo : okItem ns e = false := by
                unfold okItem
                rw [Bool.eq_false_iff.mpr c6, Bool.false_and]
              rw [eo] at z
              exact z
          · refine ⟨D, _, rfl, SqL.of e3, ?_⟩
            rw [List.all_map]
            exact q H3 (all2.trans s3)
        · rw [Bool.eq_false_iff.mpr c5, Bool.false_and] at q
          exact q H1 mT
      · rw [Bool.eq_false_iff.mpr c4, Bool.false_and, Bool.false_and] at q
        exact ⟨_, rfl, false, rfl, q H1 mT⟩
    · have yes : isFactD ms cs ns (.tuple ds) = ((PyData.eqv d0 (.str "link") && hasD cs d1) && dr.all (okItem ns)) := by
        have e1 : (dr.length = 1) = False := by
          exact eq_false fun z => c3 (decide_eq_true (by rw [List.length_cons, List.length_cons, lx, z]; rfl))
        rw [ed]
        show (decide (dr.length = 1 ∨ dr.length = 2) && ((if dr.length = 1 then _ else _) && _)) = _
        rw [decide_eq_true lr, Bool.true_and, if_neg (of_eq_false e1)]
      rw [yes] at q
      refine ⟨_, rfl, a, _, 0, x0, rfl, rfl, hs1, at0, d0, .str "link", dp_same mT _ _ a0, .str _, s0, by decide +kernel, _, rfl, ite2 (fun c4 => ?_) fun c4 => ?_⟩
      · refine ⟨_, rfl, a, _, 1, x1, rfl, rfl, hs1, at1, _, rfl, d1, cs.map PyData.str, dp_same mT _ _ a1, .lst (L2.Same.seq mT hca) (dp_texts cs), s1, lc, ?_⟩
        rw [c4, Bool.true_and] at q
        refine ⟨_, rfl, hasD cs d1, rfl, ite2 (fun c5 => ?_) fun c5 => ?_⟩
        · rw [c5, Bool.true_and] at q
          refine ⟨_, rfl, _, rfl, a, _, rfl, hs1, fun z => ?_, fun p np => ?_⟩
          · have z := z.1
            rw [show (some (2 : Int)) = some ((2 : Nat) : Int) from rfl, HT.sIx_nat] at z
            simp only [List.length_cons] at z
            omega
          rw [show (some (2 : Int)) = some ((2 : Nat) : Int) from rfl, cut_drop]
          have mp := same_new np (o := .tup ((x0 :: x1 :: xr).drop 2))
          have ep : upd H1 p (.tup ((x0 :: x1 :: xr).drop 2)) p = some (.tup xr) := upd_same
          generalize upd H1 p (.tup ((x0 :: x1 :: xr).drop 2)) = H2 at mp ep ⊢
          have all2 : L2.Same H H2 := mT.trans mp
          refine ⟨p, rfl, ⟨_, .inl (.inl ep)⟩, fun D nD => lc_bools (walk_tup (K := K) (a := p) (xs := xr)) (dr.map (okItem ns)) (by rw [List.length_map, lx]) (Nat.lt_of_le_of_lt (show xr.length ≤ 2 by omega) (by decide)) nD (fun _ s2 => .inl (.inl (s2 _ _ ep))) (fun _ _ _ _ y => by rw [y.1]; exact fun _ _ h => h)
            (fun i v H3 H4 b hi hb s2 y R hR => ?_) (fun H3 s3 e3 => ?_) (fun _ _ _ _ _ m h => m _ _ h)⟩
          · obtain ⟨rfl, hv⟩ := y
            obtain ⟨e, he, rfl⟩ := all_at hb
            have dv := dp_same (all2.trans s2) _ _ (dpAll_get ar hv he)
            refine ⟨rfl, _, rfl, v, e, rfl, dv, _, rfl, ite2 (fun c6 => ?_) fun c6 => ?_⟩
            · cases dv with
              | int i =>
                obtain ⟨kvs, ek, iff⟩ := hk
                refine ⟨_, rfl, _, rfl, ka, _, rfl, .inl ⟨kvs, .inl i, .inl ((all2.trans s2) _ _ ek), rfl, rfl⟩, ?_⟩
                have z := hR _ fun _ _ h => h
                have eo : okItem ns (.int i) = (valV kvs (.inl i)).isSome := by
                  show (numD (.int i) && decide (i ∈ ns)) = _
                  rw [c6, Bool.true_and, iff]
                rw [eo] at z
                exact z
              | _ => exact absurd c6 (by simp [numD])
            · have z := hR _ fun _ _ h => h
              have eo : okItem ns e = false := by
                unfold okItem
                rw [Bool.eq_false_iff.mpr c6, Bool.false_and]
              rw [eo] at z
              exact z
          · refine ⟨D, _, rfl, SqL.of e3, ?_⟩
            rw [List.all_map]
            exact q H3 (all2.trans s3)
        · rw [Bool.eq_false_iff.mpr c5, Bool.false_and] at q
          exact q H1 mT
      · rw [Bool.eq_false_iff.mpr c4, Bool.false_and, Bool.false_and] at q
        exact ⟨_, rfl, false, rfl, q H1 mT⟩
  | _ => exact absurd rfl c1
end
end DQ

set_option Elab.async false
set_option linter.all false
set_option maxRecDepth 100000
set_option maxHeartbeats 400000
namespace DQ
open PySem PySem.Spec PyProof.Rows L2
/-! ### d.setdefault((..), x): keys that are tuples -/
section
variable {X : Cx} {pins : List (Addr × Obj)} {σ : L2.St} {H : Hp} {s : Shared} {a b : Addr} {r : Value} {d : V} {k : List Key} {A : Around} {E : Value → Shared → Prop}
theorem d_setdT {kvs : List (List Key × V)} {Q : Value → Shared → Prop} (hu : A.units + 1 < cLine) (I : Inv X pins σ H s) (e : H a = some (.dT kvs)) (eb : H b = some (.tup (k.map kV))) (rd : RelV d r) (hl : kvs.length < sizeLine)
    (h1 : ∀ v, valV kvs k = some v → ∀ (w' : Value) (s' : Shared), Inv X pins σ H s' → RelV v w' → Q w' s') (h2 : valV kvs k = none → ∀ (w' : Value) (s' : Shared), Inv X pins σ (upd H a (.dT (putK kvs k d))) s' → RelV d w' → Q w' s') :
    wpAny (model X.prog X.w) A (call (.builtin "dict.setdefault") [.ref a, .ref b, r]) Q E s := by
  obtain ⟨z, hd, xs, rel, dd⟩ := dt_of I.hok e
  have hz : xs.length ≤ sizeLine := by rw [← Paired.length rel]; exact z
  refine call_setdefault_heap (hsz := hz) (tupleKind_room_in1 hu) (key_of I.hok eb) hd dd (fun p hp => ?_) fun hn h' dd' hs => ?_
  · have q := rel.val k
    rw [hp] at q
    cases q0 : valV kvs k with
    | none =>
      rw [q0] at q
      exact (show False from q).elim
    | some v0 =>
      rw [q0] at q
      exact h1 v0 q0 _ _ (I.tok _) q
  · have q := rel.val k
    rw [hn] at q
    cases q0 : valV kvs k with
    | some v0 =>
      rw [q0] at q
      exact (show False from q).elim
    | none =>
      have hl2 : (putK kvs k d).length ≤ sizeLine := by
        have := length_putK kvs k d
        omega
      obtain ⟨o, es, ep, hq, e2, e3, e4, _, e5⟩ := dd'
      refine h2 q0 _ _ (d_write (t' := _) I (by rw [e]; exact True.intro) hs ⟨o, hq⟩ ⟨hl2, hd, _, (rel.put k eb rd).keeps fun c ys ec => ?_, o, es, ep, hq, e2, e3, e4, e5⟩) rd
      rw [upd_ne (ne_of ec e (fun z => nomatch z))]
      exact ec
end
def tDSetdT (td ty tx : TE) : TE := fun σ H Q => td σ H fun x H1 => ∃ a, x = .ref a ∧ IsD H1 a ∧ ty σ H1 fun y H2 => tx σ H2 fun z H3 => ∃ (kvs : List (List Key × V)) (k : List Key) (b : Addr), H3 a = some (.dT kvs) ∧ y = .ref b ∧ H3 b = some (.tup (k.map kV)) ∧ kvs.length < sizeLine ∧
  (∀ v, valV kvs k = some v → Q v H3) ∧ (valV kvs k = none → Q z (upd H3 a (.dT (putK kvs k z))))
section
variable {X : Cx} {o e f : Expr} {td ty tx : TE} {apos cpos : Pos}
theorem pe_dsetdT (hu : X.A.units + 1 < cLine) (ho : PE X o td) (he : PE X e ty) (hf : PE X f tx) (m : M2 X o "setdefault" apos e f cpos) : PE X (.Call (.Attribute o "setdefault" apos) [e, f] [] cpos) (tDSetdT td ty tx) := by
  refine ⟨fun pins s σ H Q I h => ?_⟩
  refine wpAny_Call_method m.base m.few m.line PySem.F.plainAttrs_dict PySem.F.slot_dict_setdefault PySem.F.type_dict_setdefault (thn (ho.run pins s σ H _ I h) fun u s1 ⟨x, H1, I1, rx, a, ex, d, q1⟩ => ?_)
  subst ex
  obtain rfl : u = Value.ref a := rx
  obtain ⟨t1, t2, _⟩ := isD_at I1 d
  refine ⟨t1, t2, ?_⟩
  rw [m.trees]
  refine Calls.callWith_builtin rfl (Calls.evalArgs_plain (Calls.spliced_cons (thn (he.run pins s1 σ H1 _ I1 q1) fun iv s2 ⟨y, H2, I2, ry, q2⟩ =>
    Calls.spliced_cons (thn (hf.run pins s2 σ H2 _ I2 q2) fun fv s3 ⟨z, H3, I3, rz, kvs, k, b, ea, ey, eb, hl, q3, q4⟩ => Calls.spliced_nil ?_))))
  subst ey
  obtain rfl : iv = Value.ref b := ry
  exact d_setdT hu I3 ea eb rz hl (fun v hv w' s4 I4 rw' => ⟨v, _, I4, rw', q3 v hv⟩) fun hn w' s4 I4 rw' => ⟨z, _, I4, rw', q4 hn⟩
end
end DQ

set_option Elab.async false
set_option linter.all false
set_option maxRecDepth 100000
set_option maxHeartbeats 2000000
namespace DQ
open PySem PySem.Spec PyProof.Rows L2
/-! ### sets of tuples of whole numbers and texts -/
abbrev IsM (P : Program) (w : World) (h : Heap) (k : List Key) (b : Addr) : Prop := (tupleKind (mixKind P w)).is h k b
abbrev hashM (P : Program) (w : World) (k : List Key) : Int := (tupleKind (mixKind P w)).hash k
/-- the entry e of a set is a tuple with the key k -/
def KeyAt (P : Program) (w : World) (h : Heap) (e : Int × Value) (k : List Key) : Prop := ∃ b, e = (hashM P w k, .ref b) ∧ IsM P w h k b
section
variable {P : Program} {w : World} {A : Around} {E : Value → Shared → Prop} {s : Shared}
theorem key_one {h : Heap} {e : Int × Value} {k k' : List Key} (x : KeyAt P w h e k) (y : KeyAt P w h e k') : k = k' := by
  obtain ⟨b, rfl, x⟩ := x
  obtain ⟨b', e', y⟩ := y
  injection e' with _ e2
  injection e2 with e3
  subst e3
  exact (tupleKind (mixKind P w)).inj x y
theorem isM_keep {h h' : Heap} {k : List Key} {b : Addr} (x : IsM P w h k b) (o : ∀ c u, h.get? c = some u → h'.get? c = some u) : IsM P w h' k b := by
  obtain ⟨u, its, n, e, r⟩ := x
  exact ⟨u, its, n, o _ _ e, r⟩
/-- what is written at a set moves no tuple -/
theorem isM_but {h h' : Heap} {k : List Key} {a b : Addr} {o : Obj} {es : Array (Int × Value)} {ep : Nat} {t : SetTable} (x : IsM P w h k b) (ho : h.get? a = some o) (hd : o.data = .set es ep t) (hs : Heap.SameBut a h h') : IsM P w h' k b := by
  obtain ⟨u, its, n, e, hc, hd', r⟩ := x
  refine ⟨u, its, n, ?_, hc, hd', r⟩
  rw [hs.2 b fun z => ?_]
  · exact e
  · subst z
    rw [ho] at e
    cases e
    rw [hd] at hd'
    cases hd'
theorem KeyAt.but {h h' : Heap} {k : List Key} {a : Addr} {e : Int × Value} {o : Obj} {es : Array (Int × Value)} {ep : Nat} {t : SetTable} (x : KeyAt P w h e k) (ho : h.get? a = some o) (hd : o.data = .set es ep t) (hs : Heap.SameBut a h h') : KeyAt P w h' e k := by
  obtain ⟨b, r, m⟩ := x
  exact ⟨b, r, isM_but m ho hd hs⟩
theorem KeyAt.keep {h h' : Heap} {k : List Key} {e : Int × Value} (x : KeyAt P w h e k) (o : ∀ c u, h.get? c = some u → h'.get? c = some u) : KeyAt P w h' e k := by
  obtain ⟨b, r, m⟩ := x
  exact ⟨b, r, isM_keep m o⟩
/-! small questions that adding asks -/
theorem no_class {v : Value} (h : carriedByValue v = true) (n : Nat) : ofAClassStatement n v = pure false := by
  cases v with
  | ref b => cases h
  | _ => cases n <;> rfl
theorem hash_some {v : Value} (h : carriedByValue v = true) (n : Nat) : ∃ c, hashByValue n v = pure c := by
  cases v with
  | ref b => cases h
  | _ => cases n <;> exact ⟨_, rfl⟩
theorem items_by {k : List Key} {vs : List Value} (h : ItemsAre (mixKind P w) k vs) : ∀ v ∈ vs, carriedByValue v = true := ItemsAre.byValue h
theorem class_mix {k : List Key} {b : Addr} {Q : Bool → Shared → Prop} (x : IsM P w s.heap k b) (q : Q false s) : wpAny (model P w) A (ofAClassStatement 8 (.ref b)) Q E s := by
  have ty := IsTupleKey.typeIs x
  obtain ⟨o, its, n, ho, _, hd, hi⟩ := x
  unfold ofAClassStatement
  refine wpAny_bind (wpAny_typeOf ty ?_)
  simp only [show (("tuple" : String) == "tuple") = true from by decide, if_true, Bool.not_true, Bool.false_eq_true, if_false]
  try exact wpAny_bind (wpAny_pure ?_)
  show wpAny _ _ (seqItems? (.ref b) >>= _) _ _ s
  refine wpAny_bind (wpAny_seqItems ho hd (wpAny_bind ?_))
  show wpAny _ _ (forIn its _ _) _ _ s
  rw [← Array.forIn_toList]
  refine wpAny_forIn_list _ (fun l r z => (∀ v ∈ l, carriedByValue v = true) ∧ r.1 = none ∧ z = s) _ (fun v l r z hz => ?_) (fun r z hz => ?_) _ _ ⟨items_by hi, rfl, rfl⟩
  · obtain ⟨al, r1, rfl⟩ := hz
    rw [no_class (al v List.mem_cons_self)]
    refine wpAny_bind (wpAny_pure ?_)
    simp only [Bool.false_eq_true, if_false]
    exact wpAny_pure ⟨fun u hu => al u (List.mem_cons_of_mem _ hu), rfl, rfl⟩
  · obtain ⟨_, r1, rfl⟩ := hz
    obtain ⟨r1', r2⟩ := r
    cases (show r1' = none from r1)
    exact wpAny_pure q
theorem hash_mix {k : List Key} {b : Addr} {Q : Bool → Shared → Prop} (x : IsM P w s.heap k b) (q : ∀ c, Q c s) : wpAny (model P w) A (hashByValue 8 (.ref b)) Q E s := by
  have ty := IsTupleKey.typeIs x
  obtain ⟨o, its, n, ho, _, hd, hi⟩ := x
  unfold hashByValue
  refine wpAny_bind (wpAny_specialOf ty F.slot_tuple_hash.lookup ?_)
  show wpAny _ _ (seqItems? (.ref b) >>= _) _ _ s
  refine wpAny_bind (wpAny_seqItems ho hd (wpAny_bind ?_))
  show wpAny _ _ (forIn its _ _) _ _ s
  rw [← Array.forIn_toList]
  refine wpAny_forIn_list _ (fun l r z => (∀ v ∈ l, carriedByValue v = true) ∧ z = s) _ (fun v l r z hz => ?_) (fun r z hz => ?_) _ _ ⟨items_by hi, rfl⟩
  · obtain ⟨al, rfl⟩ := hz
    obtain ⟨c, e⟩ := hash_some (al v List.mem_cons_self) 7
    rw [e]
    refine wpAny_bind (wpAny_pure ?_)
    cases c
    · simp only [Bool.not_false, if_true]
      exact wpAny_pure (wpAny_pure (q _))
    · simp only [Bool.not_true, Bool.false_eq_true, if_false]
      exact wpAny_pure ⟨fun u hu => al u (List.mem_cons_of_mem _ hu), rfl⟩
  · obtain ⟨_, rfl⟩ := hz
    obtain ⟨r1, r2⟩ := r
    cases r1 <;> exact wpAny_pure (q _)
theorem seen_mix {k : List Key} {b : Addr} {Q : Bool → Shared → Prop} (x : IsM P w s.heap k b) {ys : List Value} (hy : ∀ y ∈ ys, ∃ k' c, y = .ref c ∧ IsM P w s.heap k' c) (q : Q false s) : wpAny (model P w) A (searchCouldBeSeen (.ref b) ys) Q E s := by
  unfold searchCouldBeSeen
  refine wpAny_bind (wpAny_forIn_list _ (fun l r z => (∀ y ∈ l, ∃ k' c, y = .ref c ∧ IsM P w s.heap k' c) ∧ r.1 = none ∧ z = s) _ (fun v l r z hz => ?_) (fun r z hz => ?_) _ _ ⟨hy, rfl, rfl⟩)
  · obtain ⟨al, r1, rfl⟩ := hz
    obtain ⟨k', c, rfl, x'⟩ := al v List.mem_cons_self
    have al' := fun u (hu : u ∈ l) => al u (List.mem_cons_of_mem _ hu)
    dsimp only
    cases hv : (b == c || (carriedByValue (.ref b) && carriedByValue (.ref c))) with
    | true => exact wp_if_pos rfl (wpAny_pure ⟨al', rfl, rfl⟩)
    | false =>
      refine wp_if_neg Bool.false_ne_true (wpAny_bind ((tupleKind (mixKind P w)).quiet x ?_))
      simp only [Bool.not_true, Bool.false_eq_true, if_false]
      refine wpAny_bind ((tupleKind (mixKind P w)).quiet x' ?_)
      simp only [Bool.not_true, Bool.false_eq_true, if_false]
      refine wpAny_bind (class_mix x (wpAny_bind (class_mix x' ?_)))
      exact wpAny_pure ⟨al', rfl, rfl⟩
  · obtain ⟨_, r1, rfl⟩ := hz
    obtain ⟨r1', r2⟩ := r
    cases (show r1' = none from r1)
    exact wpAny_pure q
/-- the set at a has these entries: tuples, no key twice, all found again by their hashes -/
structure SetM (P : Program) (w : World) (h : Heap) (a : Addr) (es : Array (Int × Value)) (ep : Nat) (t : SetTable) : Prop where
  ob : ∃ o, h.get? a = some o ∧ o.ExactSet ∧ o.data = .set es ep t
  tab : TabOk t (es.toList.map (·.1))
  all : ∀ e ∈ es.toList, ∃ k, KeyAt P w h e k
  apart : es.toList.Pairwise fun e f => ∀ k, KeyAt P w h e k → ¬ KeyAt P w h f k
  led : w.params.followText "set-order" = true ∨ t.led = true
  room : es.size * 5 < t.mask * 3
  few : es.size < 64
end
end DQ

set_option Elab.async false
set_option linter.all false
set_option maxRecDepth 100000
set_option maxHeartbeats 2000000
namespace DQ
open PySem PySem.Spec PyProof.Rows L2
/-! ### the search in a set of tuples -/
section
variable {P : Program} {w : World} {A : Around} {E : Value → Shared → Prop} {s : Shared} {a : Addr} {es : Array (Int × Value)} {ep : Nat} {t : SetTable}
theorem SetM.places {h : Heap} (M : SetM P w h a es ep t) : t.place.toList.length = es.size := by
  have z := M.tab.sz
  rw [List.length_map, Array.length_toList] at z
  rw [Array.length_toList]; exact z
theorem fits_of {n : Nat} (h1 : t.place.toList.length = n) (h2 : t.dummies = #[]) (h3 : n ≤ t.mask) : t.fits n = true := by
  rw [Array.length_toList] at h1
  unfold SetTable.fits SetTable.fill
  rw [h2, h1]; simpa using h3
theorem SetM.fits {h : Heap} (M : SetM P w h a es ep t) : t.fits es.size = true := fits_of M.places M.tab.dm (by have := M.room; omega)
theorem odd_mask {hs : List Int} (T : TabOk t hs) : ¬ t.gaveWay = true := by
  unfold SetTable.gaveWay; rw [mask_odd T.mok]; decide
theorem nth_dummy {m : Nat} : ∀ (n : Nat) (p : SetTable.Probe), p.dummy = none → (nth m p n).dummy = none
  | 0, _, h => h
  | n + 1, p, h => nth_dummy n (adv m p) (by unfold adv; split <;> exact h)
theorem look_from (M : SetM P w s.heap a es ep t) {x : Addr} {k : List Key} (hx : IsM P w s.heap k x) (hu : A.units < cLine) {K : Nat} (hf : K < 10 * SetTable.turns t.mask)
    (free : way t.mask (hashM P w k) K ∉ t.place.toList) (full : ∀ c, c < K → way t.mask (hashM P w k) c ∈ t.place.toList) {Q : SetFound → Shared → Prop}
    (hin : (∃ e ∈ es.toList, KeyAt P w s.heap e k) → Q (.there none) s) (hout : (∀ e ∈ es.toList, ¬ KeyAt P w s.heap e k) → Q (.free (way t.mask (hashM P w k) K) false) s) :
    ∀ (n c : Nat) (st : Option SetTable.Probe), st.getD (t.probeStart (hashM P w k)) = nth t.mask (t.probeStart (hashM P w k)) c → c ≤ K → K < c + n →
      (∀ (i : Nat) e, es.toList[i]? = some e → KeyAt P w s.heap e k → ∃ c', c ≤ c' ∧ c' < K ∧ t.place.toList[i]? = some (way t.mask (hashM P w k) c')) →
      wpAny (model P w) A (setSearchFrom a (.ref x) (hashM P w k) true n st) Q E s := by
  intro n
  obtain ⟨o, ho, hex, hd⟩ := M.ob
  have hashAt : ∀ (i : Nat) e, es.toList[i]? = some e → (fun i => (es[i]?.map (·.1)).getD 0) i = e.1 := fun i e h => by
    rw [Array.getElem?_toList] at h
    simp [h]
  have wy : ∀ c, (nth t.mask (t.probeStart (hashM P w k)) c).j = way t.mask (hashM P w k) c := fun _ => rfl
  have nodum : ∀ c, (nth t.mask (t.probeStart (hashM P w k)) c).dummy = none := fun c => nth_dummy c _ rfl
  generalize e0 : t.probeStart (hashM P w k) = p0 at wy nodum ⊢
  induction n with
  | zero => intro c st _ h1 h2; omega
  | succ n ih =>
    intro c st est hc hn hre
    rw [setSearchFrom_succ]
    refine wpAny_bind (wpAny_setState_of ho hd M.fits ?_)
    dsimp only
    refine wp_if_neg (odd_mask M.tab) ?_
    have spec := go_spec t M.tab.ris M.tab.dm (fun i => (es[i]?.map (·.1)).getD 0) (hashM P w k) (10 * SetTable.turns t.mask) (K - c) (nth t.mask p0 c) (nodum c) (by omega)
      (fun q hq => by rw [← nth_add, wy]; exact full _ (by omega)) (by rw [← nth_add, wy, show c + (K - c) = K by omega]; exact free)
    simp only [← nth_add, wy, show c + (K - c) = K by omega] at spec
    rcases spec with ⟨q, i, hq, hi, hh, first, pr⟩ | ⟨none_, pr⟩
    · have pr' : t.probe (fun i => (es[i]?.map (·.1)).getD 0) (hashM P w k) (st.getD p0) = some (.candidate (way t.mask (hashM P w k) (c + q)) i (nth t.mask p0 (c + (q + 1)))) := by
        rw [est]
        exact pr
      rw [e0, pr']
      dsimp only
      have il : i < es.toList.length := by
        have z := (List.getElem?_eq_some_iff.mp hi).1
        rw [M.places] at z
        rwa [Array.length_toList]
      have hei := List.getElem?_eq_getElem il
      generalize es.toList[i] = e at hei
      have hei' : es[i]? = some e := by rw [← Array.getElem?_toList]; exact hei
      obtain ⟨ke, hke⟩ := M.all e (List.mem_of_getElem? hei)
      have live : t.slot (way t.mask (hashM P w k) (c + q)) = .live i := slot_live M.tab.ris hi
      have rest : wpAny (model P w) A (searchRest a (.ref x) (hashM P w k) true n es t (way t.mask (hashM P w k) (c + q)) i (nth t.mask p0 (c + (q + 1)))) Q E s := by
        obtain ⟨b, eb, mb⟩ := id hke
        unfold searchRest
        rw [hei', eb]
        dsimp only
        refine wpAny_bind (wpAny_holding ((tupleKind (mixKind P w)).eqBool hu mb hx (wpAny_bind (wpAny_setState_of ho hd M.fits ?_))))
        dsimp only
        by_cases same : ke = k
        · refine wp_if_pos (by simp [same]) (wpAny_pure (hin ⟨e, List.mem_of_getElem? hei, ?_⟩))
          rw [← same]; exact hke
        · refine wp_if_neg (by simp [same]) ?_
          rw [sameMem]
          simp only [if_true, live, hei', eb]
          refine wpAny_bind (wpAny_isSame_ref_self (wpAny_bind (wpAny_pure ?_)))
          simp only [if_true]
          refine wp_if_neg (by simp [same]) (ih _ _ rfl (by omega) (by omega) fun i0 e0 h0 k0 => ?_)
          obtain ⟨c', l1, l2, l3⟩ := hre i0 e0 h0 k0
          have hv : e0.1 = hashM P w k := by obtain ⟨_, r, _⟩ := k0; rw [r]
          refine ⟨c', ?_, l2, l3⟩
          have ge : c + q ≤ c' := Nat.le_of_not_lt fun z => first (c' - c) i0 (by omega) (by rw [show c + (c' - c) = c' by omega]; exact l3) ((hashAt i0 e0 h0).trans hv)
          have nq : c' ≠ c + q := fun z => by
            rw [z] at l3
            have s0 := slot_live M.tab.ris l3
            rw [live] at s0
            injection s0 with s0
            rw [← s0, hei] at h0
            injection h0 with h0
            rw [← h0] at k0
            exact same (key_one hke k0)
          omega
      by_cases hl : t.led = true
      · exact wp_if_neg (by simp [hl]) rest
      · refine wp_if_pos (by simp [hl]) (wpAny_bind (seen_mix hx (fun y hy => ?_) (wp_if_neg Bool.false_ne_true rest)))
        obtain ⟨f, hf', fy⟩ := List.mem_map.mp hy
        have m1 : f ∈ es.toList := by
          have z : f ∈ es ∧ f.1 = hashM P w k := by simpa using hf'
          simpa using z.1
        obtain ⟨kf, bf, r, mf⟩ := M.all f m1
        exact ⟨kf, bf, by rw [← fy, r], mf⟩
    · have pr' : t.probe (fun i => (es[i]?.map (·.1)).getD 0) (hashM P w k) (st.getD p0) = some (.empty (way t.mask (hashM P w k) K) none) := by
        rw [est]
        exact pr
      rw [e0, pr']
      dsimp only
      refine wpAny_pure (hout fun e he ke => ?_)
      obtain ⟨i, hi⟩ := List.getElem?_of_mem he
      obtain ⟨c', l1, l2, l3⟩ := hre i e hi ke
      refine none_ (c' - c) i (by omega) (by rw [show c + (c' - c) = c' by omega]; exact l3) ((hashAt i e hi).trans ?_)
      obtain ⟨_, r, _⟩ := ke
      rw [r]
/-- the search, as adding asks it -/
theorem look_at (M : SetM P w s.heap a es ep t) {x : Addr} {k : List Key} (hx : IsM P w s.heap k x) (hu : A.units < cLine) {Q : SetFound → Shared → Prop} (hin : (∃ e ∈ es.toList, KeyAt P w s.heap e k) → Q (.there none) s)
    (hout : ∀ K, (∀ e ∈ es.toList, ¬ KeyAt P w s.heap e k) → way t.mask (hashM P w k) K ∉ t.place.toList → (∀ c, c < K → way t.mask (hashM P w k) c ∈ t.place.toList) → Q (.free (way t.mask (hashM P w k) K) false) s) :
    wpAny (model P w) A (setSearch a (.ref x) (hashM P w k) true) Q E s := by
  have room := M.room
  obtain ⟨K, hf, free, full⟩ := M.tab.first (by rw [List.length_map, Array.length_toList]; omega) (hashM P w k)
  have turns : 10 * SetTable.turns t.mask ≤ 2000 := by unfold SetTable.turns; rcases M.tab.mok with e | e | e <;> omega
  unfold setSearch
  refine look_from M hx hu hf free full hin (fun no => hout K no free full) 100000 0 none rfl (Nat.zero_le _) (by omega) fun i e hi ke => ?_
  obtain ⟨b, r, _⟩ := ke
  have il : i < t.place.toList.length := by
    have z := (List.getElem?_eq_some_iff.mp hi).1
    rwa [M.places, ← Array.length_toList]
  have hj := List.getElem?_eq_getElem il
  obtain ⟨c, hc, ec⟩ := M.tab.before free (i := i) (h := hashM P w k) (by rw [List.getElem?_map, hi, r] <;> rfl) hj
  exact ⟨c, Nat.zero_le _, hc, by rw [hj, ec]⟩
end
end DQ

set_option Elab.async false
set_option linter.all false
set_option maxRecDepth 100000
set_option maxHeartbeats 2000000
namespace DQ
open PySem PySem.Spec PyProof.Rows L2
/-! ### a tuple put into a set -/
section
variable {P : Program} {w : World} {A : Around} {E : Value → Shared → Prop} {s : Shared} {a : Addr} {es : Array (Int × Value)} {ep : Nat} {t : SetTable}
def Apart (P : Program) (w : World) (h : Heap) (l : List (Int × Value)) : Prop := l.Pairwise fun e f => ∀ k, KeyAt P w h e k → ¬ KeyAt P w h f k
theorem Apart.go {h h' : Heap} {l : List (Int × Value)} (ap : Apart P w h l) (al : ∀ e ∈ l, ∃ k, KeyAt P w h e k) (up : ∀ e ∈ l, ∀ k, KeyAt P w h e k → KeyAt P w h' e k) : Apart P w h' l := List.Pairwise.imp_of_mem (fun {e f} he hf r k x y => by
  obtain ⟨k1, x1⟩ := al e he
  obtain ⟨k2, y2⟩ := al f hf
  have z1 := key_one (up _ he _ x1) x
  have z2 := key_one (up _ hf _ y2) y
  subst z1; subst z2
  exact r _ x1 y2) ap
theorem Apart.perm {h : Heap} {l m : List (Int × Value)} (ap : Apart P w h l) (p : m.Perm l) : Apart P w h m := (p.pairwise_iff (fun r k x y => r k y x)).mpr ap
theorem fm_hashes : ∀ l : List Nat, (∀ i ∈ l, i < es.size) → (l.filterMap fun i => es[i]?).map (·.1) = l.map fun i => (es.map (·.1)).getD i 0
  | [], _ => rfl
  | i :: l, h => by
    have hi := h i List.mem_cons_self
    rw [List.filterMap_cons_some (Array.getElem?_eq_getElem hi), List.map_cons, List.map_cons, fm_hashes l fun j hj => h j (List.mem_cons_of_mem _ hj)]
    simp [Array.getD, hi]
/-- the table laid anew -/
theorem relay_mix {o : Obj} (ho : s.heap.get? a = some o) (hex : o.ExactSet) (hd : o.data = .set es ep t) (T : TabOk t (es.toList.map (·.1))) (al : ∀ e ∈ es.toList, ∃ k, KeyAt P w s.heap e k) (ap : Apart P w s.heap es.toList)
    (ld : w.params.followText "set-order" = true ∨ t.led = true) (few : es.size < 64) (hfl : es.size ≤ t.mask) {wanted M : Nat} (e1 : SetTable.sizeAbove wanted - 1 = M) (mM : MaskOk M) (e2 : SetTable.sizeAbove wanted ≤ 128) (hn : es.size * 5 < M * 3) {Q : Unit → Shared → Prop}
    (hQ : ∀ h' es' ep' t', Heap.SameBut a s.heap h' → SetM P w h' a es' ep' t' → es'.toList.Perm es.toList → Q () { s with heap := h' }) : wpAny (model P w) A (setRelay a wanted) Q E s := by
  have pl : t.place.toList.length = es.size := by
    have z := T.sz
    rw [List.length_map, Array.length_toList] at z
    rw [Array.length_toList]; exact z
  obtain ⟨t', order, e, hp, T', em, el, _, _⟩ := relaid_ok t (hs := es.map (·.1)) (wanted := wanted) e1 mM (by rw [Array.size_map]; omega)
  rw [Array.size_map] at hp
  have lst : (order.filterMap (es[·]?)).toList = order.toList.filterMap fun i => es[i]? := by simp
  have pm : (order.filterMap (es[·]?)).toList.Perm es.toList := by
    rw [lst, ← filterMap_getElem?_range es]
    exact hp.filterMap _
  have sz : (order.filterMap (es[·]?)).size = es.size := by
    have z := pm.length_eq
    rwa [Array.length_toList, Array.length_toList] at z
  rw [← fm_hashes order.toList fun i hi => List.mem_range.mp (hp.mem_iff.mp hi), ← lst] at T'
  rw [setRelay_eq]
  refine wpAny_bind (wpAny_setState_of ho hd (fits_of pl T.dm hfl) ?_)
  dsimp only
  refine wp_if_neg (by rw [sizeLine_eq]; omega) ?_
  rw [e]
  refine wpAny_bind (wp_if_neg (by rw [sz]; simp) (wpAny_pure ?_))
  dsimp only
  refine wpAny_storeSet_of ho hd ?_ (by rw [sz, sizeLine_eq]; omega)
  have sb : Heap.SameBut a s.heap (s.heap.update a (Obj.putSet (order.filterMap (es[·]?)) t')) := Heap.SameBut.update ..
  have up : ∀ e k, KeyAt P w s.heap e k → KeyAt P w (s.heap.update a (Obj.putSet (order.filterMap (es[·]?)) t')) e k := fun e k x => x.but ho hd sb
  exact hQ _ (order.filterMap (es[·]?)) (ep + 1) t' sb ⟨⟨_, store_at ho hd, ⟨hex.1, hex.2.1, hex.2.2⟩, rfl⟩, T', fun f hf => (al f (pm.mem_iff.mp hf)).imp (up f), (ap.go al fun e _ => up e).perm pm, by rw [el]; exact ld, by rw [sz, em]; exact hn, by rw [sz]; exact few⟩ pm
theorem tab_plain {hs : List Int} {c : Bool} (T : TabOk t hs) : TabOk (if c = true then t else { t with plain := false }) hs := by
  cases c
  · exact ⟨T.ris, T.dm, T.sz, T.mok, T.bd, T.reach⟩
  · exact T
theorem put_in (M : SetM P w s.heap a es ep t) {x : Addr} {k : List Key} (hx : IsM P w s.heap k x) (hu : A.units < cLine) (hfew : (∀ e ∈ es.toList, ¬ KeyAt P w s.heap e k) → es.size + 1 < 64) {Q : Bool → Shared → Prop}
    (hQ : ∀ b h' es' ep' t', Heap.SameBut a s.heap h' → SetM P w h' a es' ep' t' → ((∃ e ∈ es.toList, KeyAt P w s.heap e k) → es' = es) → ((∀ e ∈ es.toList, ¬ KeyAt P w s.heap e k) → es'.toList.Perm ((hashM P w k, .ref x) :: es.toList)) → Q b { s with heap := h' }) :
    wpAny (model P w) A (setAddHashed a (.ref x) (hashM P w k)) Q E s := by
  obtain ⟨o, ho, hex, hd⟩ := M.ob
  have room := M.room
  unfold setAddHashed
  refine wpAny_holding ?_
  rw [show (100000 : Nat) = 99999 + 1 from rfl, setAddHashedIn_succ]
  refine wpAny_bind (wpAny_setState_of ho hd M.fits ?_)
  dsimp only
  refine wp_if_neg (by simp [byScan, Value.scannable]) (wpAny_bind (look_at M hx hu (fun hm => ?_) fun K no free full => ?_))
  · exact wpAny_pure (hQ false s.heap es ep t (Heap.SameBut.refl a s.heap) M (fun _ => rfl) fun z => hm.elim fun e he => absurd he.2 (z e he.1))
  have hfew := hfew no
  dsimp only
  refine wpAny_bind (wpAny_setState_of ho hd M.fits ?_)
  dsimp only
  obtain ⟨q1, q2, q3, q4, q5, q6, q7, q8, q9⟩ := M.tab.put free full
  generalize hpt : t.put (way t.mask (hashM P w k) K) = pt at q1 q3 q4 q5 q6 q7 q8 q9 ⊢
  obtain ⟨t1, p⟩ := pt
  dsimp only at q1 q3 q4 q5 q6 q7 q8 q9 ⊢
  subst q1
  have mid : ∀ c : Bool, wpAny (model P w) A (do
      storeSet a (SetTable.insertAt es (SetTable.below t.place (way t.mask (hashM P w k) K)) (hashM P w k, Value.ref x)) (if c = true then t1 else { t1 with plain := false })
      if (!false && (if c = true then t1 else { t1 with plain := false }).tooFull) = true then do
        setRelay a (SetTable.grown (es.size + 1))
        pure true
      else pure true) Q E s := fun c => by
    have T1 := tab_plain (c := c) q3
    have m1 : (if c = true then t1 else { t1 with plain := false }).mask = t.mask := by cases c <;> exact q4
    have d1 : (if c = true then t1 else { t1 with plain := false }).led = t.led := by cases c <;> exact q5
    have f1 : (if c = true then t1 else { t1 with plain := false }).fill = es.size + 1 := by
      rw [List.length_map, Array.length_toList] at q9
      cases c <;> exact q9
    generalize (if c = true then t1 else { t1 with plain := false }) = tt at T1 m1 d1 f1 ⊢
    have l1 : (SetTable.insertAt es (SetTable.below t.place (way t.mask (hashM P w k) K)) (hashM P w k, Value.ref x)).toList = es.toList.take (SetTable.below t.place (way t.mask (hashM P w k) K)) ++ (hashM P w k, Value.ref x) :: es.toList.drop (SetTable.below t.place (way t.mask (hashM P w k) K)) := SetTable.toList_insertAt _ _ _
    generalize SetTable.below t.place (way t.mask (hashM P w k) K) = p at T1 l1 ⊢
    have pm : (SetTable.insertAt es p (hashM P w k, Value.ref x)).toList.Perm ((hashM P w k, Value.ref x) :: es.toList) := by
      rw [l1]
      have z : (es.toList.take p ++ (hashM P w k, Value.ref x) :: es.toList.drop p).Perm ((hashM P w k, Value.ref x) :: (es.toList.take p ++ es.toList.drop p)) := List.perm_middle
      rwa [List.take_append_drop] at z
    rw [← List.map_take, ← List.map_drop, ← List.map_cons (f := fun e : Int × Value => e.1) (a := (hashM P w k, Value.ref x)), ← List.map_append, ← l1] at T1
    generalize SetTable.insertAt es p (hashM P w k, Value.ref x) = es1 at T1 pm ⊢
    have sz : es1.size = es.size + 1 := by
      have z := pm.length_eq
      rwa [Array.length_toList, List.length_cons, Array.length_toList] at z
    refine wpAny_bind (wpAny_storeSet_of ho hd ?_ (by rw [sz, sizeLine_eq]; omega))
    have sb : Heap.SameBut a s.heap (s.heap.update a (Obj.putSet es1 tt)) := Heap.SameBut.update ..
    have ho1 := store_at (es' := es1) (t' := tt) ho hd
    generalize s.heap.update a (Obj.putSet es1 tt) = h1 at sb ho1 ⊢
    have up : ∀ e k, KeyAt P w s.heap e k → KeyAt P w h1 e k := fun e k y => y.but ho hd sb
    have mine : KeyAt P w s.heap (hashM P w k, Value.ref x) k := ⟨x, rfl, hx⟩
    have al0 : ∀ e ∈ es1.toList, ∃ k, KeyAt P w s.heap e k := fun e he => by
      rcases List.mem_cons.mp (pm.mem_iff.mp he) with z | z
      · rw [z]; exact ⟨k, mine⟩
      · exact M.all e z
    have ap0 : Apart P w s.heap es1.toList := Apart.perm (List.pairwise_cons.mpr ⟨fun f hf k' y z => no f hf (by rw [key_one mine y]; exact z), M.apart⟩) pm
    have al1 : ∀ e ∈ es1.toList, ∃ k, KeyAt P w h1 e k := fun e he => (al0 e he).imp (up e)
    have ap1 := ap0.go al0 fun e _ => up e
    have ld1 : w.params.followText "set-order" = true ∨ tt.led = true := by rw [d1]; exact M.led
    cases hf : tt.tooFull with
    | false => exact wp_if_neg (by simp [hf]) (wpAny_pure (hQ true h1 es1 (ep + 1) tt sb ⟨⟨_, ho1, ⟨hex.1, hex.2.1, hex.2.2⟩, rfl⟩, T1, al1, ap1, ld1, by
        unfold SetTable.tooFull at hf
        rw [decide_eq_false_iff_not, f1] at hf
        omega, by omega⟩ (fun ⟨e, he, ke⟩ => absurd ke (no e he)) fun _ => pm))
    | true =>
      have full' : (es.size + 1) * 5 ≥ tt.mask * 3 := by
        unfold SetTable.tooFull at hf
        rw [decide_eq_true_eq, f1] at hf
        exact hf
      have two : (t.mask = 7 ∧ es.size = 4) ∨ (t.mask = 31 ∧ es.size = 18) := by
        rw [m1] at full'
        rcases M.tab.mok with e | e | e <;> rw [e] at full' room
        · exact .inl ⟨e, by omega⟩
        · exact .inr ⟨e, by omega⟩
        · omega
      have go : ∀ N, SetTable.sizeAbove (SetTable.grown (es.size + 1)) - 1 = N → MaskOk N → SetTable.sizeAbove (SetTable.grown (es.size + 1)) ≤ 128 → (es.size + 1) * 5 < N * 3 → wpAny (model P w) A (do
          setRelay a (SetTable.grown (es.size + 1))
          pure true) Q E { s with heap := h1 } := fun N y1 y2 y3 y4 =>
        wpAny_bind (relay_mix (s := { s with heap := h1 }) ho1 ⟨hex.1, hex.2.1, hex.2.2⟩ rfl T1 al1 ap1 ld1 (by omega) (by rw [sz, m1]; rcases two with ⟨e, e2⟩ | ⟨e, e2⟩ <;> omega) y1 y2 y3 (by rw [sz]; exact y4)
          fun h2 es2 ep2 t2 sb2 M2 pm2 => wpAny_pure (hQ true h2 es2 ep2 t2 (sb.trans sb2) M2 (fun ⟨e, he, ke⟩ => absurd ke (no e he)) fun _ => pm2.trans pm))
      refine wp_if_pos (by simp [hf]) ?_
      rcases two with ⟨_, e2⟩ | ⟨_, e2⟩
      · exact go 31 (by rw [e2, size_20]) (.inr (.inl rfl)) (by rw [e2, size_20]; decide) (by omega)
      · exact go 127 (by rw [e2, size_76]) (.inr (.inr rfl)) (by rw [e2, size_76]; decide) (by omega)
  by_cases hp : t1.plain = true
  · exact wp_if_pos hp (wpAny_bind (hash_mix hx fun c => mid c))
  · exact wp_if_neg hp (wpAny_bind (wpAny_pure (mid true)))
end
end DQ

set_option Elab.async false
set_option linter.all false
set_option maxRecDepth 100000
set_option maxHeartbeats 3200000
namespace DQ
open PySem PySem.Spec PyProof.Rows L2
/-! ### set(xs), xs a list of tuples -/
theorem nodup_few {α : Type} [DecidableEq α] : ∀ {l D : List α}, l.Nodup → (∀ x ∈ l, x ∈ D) → l.length ≤ D.length
  | [], _, _, _ => Nat.zero_le _
  | x :: l, D, nd, h => by
    obtain ⟨n1, n2⟩ := List.nodup_cons.mp nd
    have m := h x List.mem_cons_self
    have z := nodup_few (D := D.erase x) n2 fun y hy => (List.mem_erase_of_ne fun e => n1 (by rw [← e]; exact hy)).mpr (h y (List.mem_cons_of_mem _ hy))
    rw [List.length_erase_of_mem m] at z
    have := List.length_pos_of_mem m
    rw [List.length_cons]
    omega
abbrev Kd := Addr × List Key
def rowM (P : Program) (w : World) (p : Kd) : Int × Value := (hashM P w p.2, .ref p.1)
/-- what a set has of the first i items -/
structure Fed (P : Program) (w : World) (ks : List Kd) (i : Nat) (es : Array (Int × Value)) (L : List Kd) : Prop where
  rows : es.toList.Perm (L.map (rowM P w))
  nd : (L.map (·.2)).Nodup
  sub : ∀ p ∈ L, p ∈ ks.take i
  all : ∀ p ∈ ks.take i, p.2 ∈ L.map (·.2)
section
variable {P : Program} {w : World} {A : Around} {E : Value → Shared → Prop} {s : Shared}
theorem take_more {α : Type} {l : List α} {i : Nat} {x : α} (h : l[i]? = some x) : l.take (i + 1) = l.take i ++ [x] := by rw [List.take_succ, h]; rfl
theorem Fed.in_iff {ks : List Kd} {i : Nat} {es : Array (Int × Value)} {L : List Kd} (g : Fed P w ks i es L) {h : Heap} (hk : ∀ p ∈ ks, IsM P w h p.2 p.1) (k : List Key) : (∃ e ∈ es.toList, KeyAt P w h e k) ↔ k ∈ L.map (·.2) := by
  constructor
  · intro ⟨e, he, ke⟩
    obtain ⟨p, hp, r⟩ := List.mem_map.mp (g.rows.mem_iff.mp he)
    refine List.mem_map.mpr ⟨p, hp, ?_⟩
    have z : KeyAt P w h e p.2 := ⟨p.1, r.symm, hk p (List.mem_of_mem_take (g.sub p hp))⟩
    exact key_one z ke
  · intro m
    obtain ⟨p, hp, r⟩ := List.mem_map.mp m
    exact ⟨_, g.rows.mem_iff.mpr (List.mem_map.mpr ⟨p, hp, rfl⟩), p.1, by rw [← r]; rfl, by rw [← r]; exact hk p (List.mem_of_mem_take (g.sub p hp))⟩
theorem Fed.old {ks : List Kd} {i : Nat} {es : Array (Int × Value)} {L : List Kd} {x : Kd} (g : Fed P w ks i es L) (h : ks[i]? = some x) (m : x.2 ∈ L.map (·.2)) : Fed P w ks (i + 1) es L := by
  refine ⟨g.rows, g.nd, fun p hp => ?_, fun p hp => ?_⟩ <;> rw [take_more h] at *
  · exact List.mem_append_left _ (g.sub p hp)
  · rcases List.mem_append.mp hp with z | z
    · exact g.all p z
    · rw [List.mem_singleton.mp z]; exact m
theorem Fed.put {ks : List Kd} {i : Nat} {es es' : Array (Int × Value)} {L : List Kd} {x : Kd} (g : Fed P w ks i es L) (h : ks[i]? = some x) (m : x.2 ∉ L.map (·.2)) (pm : es'.toList.Perm (rowM P w x :: es.toList)) : Fed P w ks (i + 1) es' (x :: L) := by
  refine ⟨pm.trans (g.rows.cons _), List.nodup_cons.mpr ⟨m, g.nd⟩, fun p hp => ?_, fun p hp => ?_⟩ <;> rw [take_more h] at *
  · rcases List.mem_cons.mp hp with z | z
    · rw [z]; exact List.mem_append_right _ (List.mem_singleton.mpr rfl)
    · exact List.mem_append_left _ (g.sub p z)
  · rcases List.mem_append.mp hp with z | z
    · exact List.mem_cons_of_mem _ (g.all p z)
    · rw [List.mem_singleton.mp z]; exact List.mem_cons_self
theorem SetM.stay {h h' : Heap} {a : Addr} {es : Array (Int × Value)} {ep : Nat} {t : SetTable} (M : SetM P w h a es ep t) (ka : ∀ o, h.get? a = some o → h'.get? a = some o) (kt : ∀ e ∈ es.toList, ∀ k, KeyAt P w h e k → KeyAt P w h' e k) : SetM P w h' a es ep t := by
  obtain ⟨o, ho, r⟩ := M.ob
  exact ⟨⟨o, ka o ho, r⟩, M.tab, fun e he => (M.all e he).imp (kt e he), Apart.go M.apart M.all kt, M.led, M.room, M.few⟩
theorem Fed.moves {ks : List Kd} {i : Nat} {es : Array (Int × Value)} {L : List Kd} (g : Fed P w ks i es L) {h h' : Heap} (hk : ∀ p ∈ ks, IsM P w h p.2 p.1) (hk' : ∀ p ∈ ks, IsM P w h' p.2 p.1) : ∀ e ∈ es.toList, ∀ k, KeyAt P w h e k → KeyAt P w h' e k := fun e he k y => by
  obtain ⟨p, hp, r⟩ := List.mem_map.mp (g.rows.mem_iff.mp he)
  have m := List.mem_of_mem_take (g.sub p hp)
  have z : KeyAt P w h e p.2 := ⟨p.1, r.symm, hk p m⟩
  rw [← key_one z y]
  exact ⟨p.1, r.symm, hk' p m⟩
/-- the loop of set.update -/
theorem feed {I : Addr} {fp wr : List Addr} {G : Array GenState → Array GenState → Prop} {n : Nat} {Pv : Nat → Value → Prop} {St : Nat → Shared → Prop} {R : Result → Shared → Prop} (W : WalksS P w A.in1 I fp wr G n Pv St) (S : Addr) (nS : S ∉ fp) (ks : List Kd) (hn : n = ks.length)
    (D : List (List Key)) (hD : ∀ p ∈ ks, p.2 ∈ D) (few : D.length < 64) (hval : ∀ i v, Pv i v → ∃ p, ks[i]? = some p ∧ v = .ref p.1) (h0 : Heap) (hk : ∀ p ∈ ks, IsM P w h0 p.2 p.1) (S0 : h0.get? S = none) (w0 : ∀ b ∈ wr, h0.get? b = none) (hu : A.in1.units < cLine) :
    ∀ (j i : Nat) (s : Shared), n - i = j → i ≤ n → St i s → (∀ b o, h0.get? b = some o → s.heap.get? b = some o) → (∃ es ep t L, SetM P w s.heap S es ep t ∧ Fed P w ks i es L) →
      (∀ s' es ep t L, Moved (S :: wr) G s s' → SetM P w s'.heap S es ep t → Fed P w ks n es L → (∀ b o, h0.get? b = some o → s'.heap.get? b = some o) → R (.ok (.ret .none)) s') → codeAny (model P w) A (.builtin "set.update.loop" ⟨[.ref S, .ref I], []⟩) R s := by
  have nw : S ∉ wr := fun h => nS (W.sub _ h)
  have inw : ∀ b ∈ wr, b ∈ S :: wr := fun b hb => List.mem_cons_of_mem _ hb
  have on : ∀ {s s' : Shared}, Moved wr G s s' → (∀ b o, h0.get? b = some o → s.heap.get? b = some o) → ∀ b o, h0.get? b = some o → s'.heap.get? b = some o := fun hm hkp b o e => hm.heap b o (fun hb => by rw [w0 b hb] at e; cases e) (hkp b o e)
  intro j
  induction j with
  | zero =>
    intro i s hj hi st kp ⟨es, ep, t, L, M, g⟩ fin
    obtain rfl : i = n := by omega
    refine codeAny_builtin F.entry_set_update_loop ?_
    rw [Around.under_plainId F.plain_set_update_loop _]
    show wpAny _ A.in1 (pyNext (.ref I) >>= _) _ _ s
    refine wpAny_bind (W.done s _ _ st fun s' hm => ?_)
    have kp' := on hm kp
    exact wpAny_pure (fin s' es ep t L (hm.mono inw) (M.stay (fun o e => hm.heap S o nw e) (g.moves (fun p hp => isM_keep (hk p hp) kp) fun p hp => isM_keep (hk p hp) kp')) g kp')
  | succ j ih =>
    intro i s hj hi st kp ⟨es, ep, t, L, M, g⟩ fin
    have lt : i < n := by omega
    refine codeAny_builtin F.entry_set_update_loop ?_
    rw [Around.under_plainId F.plain_set_update_loop _]
    show wpAny _ A.in1 (pyNext (.ref I) >>= _) _ _ s
    refine wpAny_bind (W.item i s _ _ lt st fun v s' hP st' hm => ?_)
    obtain ⟨x, hx, rfl⟩ := hval i v hP
    have kp' := on hm kp
    have hk' : ∀ p ∈ ks, IsM P w s'.heap p.2 p.1 := fun p hp => isM_keep (hk p hp) kp'
    have M' : SetM P w s'.heap S es ep t := M.stay (fun o e => hm.heap S o nw e) (g.moves (fun p hp => isM_keep (hk p hp) kp) hk')
    have mx := List.mem_of_getElem? hx
    show wpAny _ A.in1 (holding [Value.ref x.1] (setAdd S (.ref x.1)) >>= _) _ _ s'
    refine wpAny_bind (wpAny_holding ?_)
    unfold setAdd
    refine wpAny_holding (wpAny_bind ((tupleKind (mixKind P w)).pyHash hu (hk' x mx) ?_))
    refine put_in (s := { s' with toks := s'.toks + (tupleKind (mixKind P w)).draws x.2 }) M' (hk' x mx) hu (fun no => ?_) fun b h' es' ep' t' sb M2 c1 c2 => ?_
    · have nin : x.2 ∉ L.map (·.2) := fun m => by
        obtain ⟨e, he, ke⟩ := (g.in_iff hk' x.2).mpr m
        exact no e he ke
      have z := nodup_few (l := x.2 :: L.map (·.2)) (D := D) (List.nodup_cons.mpr ⟨nin, g.nd⟩) fun k mk => by
        rcases List.mem_cons.mp mk with e | mk
        · rw [e]; exact hD x mx
        · obtain ⟨p, hp, r⟩ := List.mem_map.mp mk
          rw [← r]; exact hD p (List.mem_of_mem_take (g.sub p hp))
      have y := g.rows.length_eq
      rw [Array.length_toList, List.length_map] at y
      rw [List.length_cons, List.length_map] at z
      omega
    have kp2 : ∀ b o, h0.get? b = some o → h'.get? b = some o := fun b o e => (sb.2 b (fun z => by rw [z, S0] at e; cases e)).trans (kp' b o e)
    have g' : ∃ L', Fed P w ks (i + 1) es' L' := by
      by_cases m : x.2 ∈ L.map (·.2)
      · rw [c1 ((g.in_iff hk' x.2).mpr m)]
        exact ⟨L, g.old hx m⟩
      · exact ⟨_, g.put hx m (c2 fun e he ke => m ((g.in_iff hk' x.2).mp ⟨e, he, ke⟩))⟩
    obtain ⟨L', g'⟩ := g'
    refine wpAny_pure ⟨plainId_quiet F.plain_set_update_loop _, ih (i + 1) _ (by omega) lt (W.frame _ s' _ _ st' (Nat.le_add_right _ _) fun b hb o e => ?_) kp2 ⟨es', ep', t', L', M2, g'⟩ fun s2 es2 ep2 t2 L2 hm2 M3 g2 kp3 => ?_⟩
    · exact (sb.2 b (fun z => nS (by rw [← z]; exact hb))).trans e
    · refine fin s2 es2 ep2 t2 L2 (Moved.trans W.gtrans ((hm.mono inw).then_heap (Nat.le_add_right _ _) fun b o hb e => ?_) hm2) M3 g2 kp3
      exact (sb.2 b (fun z => hb (by rw [z]; exact List.mem_cons_self))).trans e
end
end DQ

set_option Elab.async false
set_option linter.all false
set_option maxRecDepth 100000
set_option maxHeartbeats 3200000
namespace DQ
open PySem PySem.Spec PyProof.Rows L2
/-- an empty set -/
def set0 (w : World) : Obj := { cls := .type "set", dict := none, data := .set #[] 0 (.fresh 0 0 (!w.params.followText "set-order")) }
section
variable {P : Program} {w : World} {A : Around} {E : Value → Shared → Prop} {s : Shared}
theorem setM_none {h : Heap} {a : Addr} (ho : h.get? a = some (set0 w)) : SetM P w h a #[] 0 (.fresh 0 0 (!w.params.followText "set-order")) := by
  refine ⟨⟨_, ho, ⟨rfl, rfl, rfl⟩, rfl⟩, ⟨.nil, rfl, rfl, .inl rfl, fun x hx => ?_, fun i h j hi => ?_⟩, fun e he => ?_, .nil, ?_, ?_, ?_⟩
  · cases hx
  · simp at hi
  · cases he
  · cases hc : w.params.followText "set-order"
    · exact .inr rfl
    · exact .inl rfl
  · show 0 * 5 < 7 * 3
    decide
  · show 0 < 64
    decide
theorem fed_none {ks : List Kd} : Fed P w ks 0 #[] [] := ⟨.nil, .nil, fun p hp => (by cases hp), fun p hp => (by simp at hp)⟩
/-- what set(xs) leaves -/
def Filled (P : Program) (w : World) (s : Shared) (ks : List Kd) (s2 : Shared) : Prop := ∃ h' tk es ep t L, s2 = { s with heap := h', toks := tk } ∧ SetM P w h' s.heap.objs.size es ep t ∧ Fed P w ks ks.length es L ∧ ∀ b o, s.heap.get? b = some o → h'.get? b = some o
theorem none_past {h : Heap} {b : Addr} (hb : h.objs.size ≤ b) : h.get? b = none := by
  cases q : h.get? b with
  | none => rfl
  | some o => exact absurd (Heap.lt_size q) (Nat.not_lt.mpr hb)
theorem init_set {l : Addr} {items : Array Value} (ks : List Kd) (hh : A.handled = none) (hl : s.heap.IsList l items) (hit : items.toList = ks.map fun p => Value.ref p.1) (hk : ∀ p ∈ ks, IsM P w s.heap p.2 p.1) (D : List (List Key)) (hD : ∀ p ∈ ks, p.2 ∈ D) (few : D.length < 64) (hu : A.units + 2 < cLine) :
    wpAny (model P w) A.in1 (Builtin.«set.__init__» { pos := [Value.ref s.heap.objs.size] ++ { pos := [Value.ref l] : Args }.pos }) (fun fin s' => match fin with
      | .done f => wants (fun r s₂ => r = .none ∧ Filled P w s ks s₂) E (.ok f) s'
      | .again c' => c'.quiet = true ∧ codeAny (model P w) A c' (wants (fun r s₂ => r = .none ∧ Filled P w s ks s₂) E) s') (fun e s' => wants (fun r s₂ => r = .none ∧ Filled P w s ks s₂) E (.error e) s') { s with heap := s.heap.push (set0 w) } := by
  have isz : items.size = ks.length := by
    have z := congrArg List.length hit
    rwa [Array.length_toList, List.length_map] at z
  obtain ⟨ol, hol, hcl, nl, hdl⟩ := hl
  obtain ⟨ocls, odict, odata, oslots⟩ := ol
  simp only at hcl hdl
  subst hcl; subst hdl
  have hol' : (s.heap.push (set0 w)).get? l = some { cls := .type "list", dict := odict, data := .seq items nl, slots := oslots } := Heap.get?_push_of_some _ hol
  have x1 := F.sub_list_set
  have x2 := F.sub_list_frozenset
  have x3 : (Value.type "list" == Value.type "dict") = false := by decide
  have il : (s.heap.push (set0 w)).IsList l items := ⟨_, hol', rfl, nl, rfl⟩
  unfold Builtin.«set.__init__» noKeywords Builtin.Frozenset.updateFrom
  generalize hPI : pyIter = PI
  wp_walk
  subst hPI
  refine wpAny_pyIter_list il (wpAny_bind (wpAny_runValue ?_))
  have sz1 : (s.heap.push (set0 w)).objs.size = s.heap.objs.size + 1 := Heap.size_push ..
  have ls : l < s.heap.objs.size := Heap.lt_size hol
  have hh3 : A.in1.in1.handled = none := by simp [hh]
  have vals : ∀ (i : Nat) (v : Value), items[i]? = some v → ∃ p, ks[i]? = some p ∧ v = .ref p.1 := fun i v hv => by
    have z : items.toList[i]? = some v := by rw [Array.getElem?_toList]; exact hv
    rw [hit, List.getElem?_map] at z
    cases hq : ks[i]? with
    | none => rw [hq] at z; cases z
    | some p =>
      rw [hq] at z
      exact ⟨p, rfl, (Option.some.inj z).symm⟩
  refine feed ((Walks.list hh3 _ l (by rw [sz1]; exact Nat.ne_of_lt (Nat.lt_succ_of_lt ls)) items).toS) s.heap.objs.size (by rw [sz1]; simp only [List.mem_cons, List.not_mem_nil, or_false, not_or]; exact ⟨Nat.ne_of_lt (Nat.lt_succ_self _), Nat.ne_of_gt ls⟩) ks isz D hD few vals s.heap hk (none_past (Nat.le_refl _)) (fun b hb => none_past (by rw [List.mem_singleton.mp hb, sz1]; exact Nat.le_succ _)) hu (items.size - 0) 0 _ rfl (Nat.zero_le _)
    ⟨⟨_, Heap.get?_push_size _ rfl, rfl, rfl⟩, il.push _⟩ (fun b o e => Heap.get?_push_of_some _ (Heap.get?_push_of_some _ e)) ⟨#[], 0, _, [], setM_none (Heap.get?_push_of_some _ (Heap.get?_push_size _ rfl)), fed_none⟩ fun s' es ep t L hm M g kp => ?_
  obtain ⟨h', g2, d', tk, os'⟩ := s'
  obtain rfl : g2 = s.gens := hm.gens
  obtain rfl : d' = s.drawn := hm.drawn
  obtain rfl : os' = s.os := hm.os
  rw [isz] at g
  show wpAny _ _ _ _ _ _
  refine wpAny_pure ?_
  show wpAny _ _ (ret Value.none) _ _ _
  exact wpAny_pure ⟨rfl, h', tk, es, ep, t, L, rfl, M, g, kp⟩
theorem call_set_mix {l : Addr} {items : Array Value} (ks : List Kd) {Q : Value → Shared → Prop} (hh : A.handled = none) (hl : s.heap.IsList l items) (hit : items.toList = ks.map fun p => Value.ref p.1) (hk : ∀ p ∈ ks, IsM P w s.heap p.2 p.1) (D : List (List Key)) (hD : ∀ p ∈ ks, p.2 ∈ D) (few : D.length < 64) (hu : A.units + 3 < cLine)
    (q : ∀ s2, Filled P w s ks s2 → Q (.ref s.heap.objs.size) s2) : wpAny (model P w) A (call (.type "set") [.ref l]) Q E s := by
  obtain ⟨c, tl, hmro⟩ := F.called_set.mro
  have made := F.called_set.made
  have under := F.called_set.sub
  refine wpAny_call (codeAny_of_tree ?_)
  show wpAny _ _ (callAny (.type "set") _) _ _ _
  refine wpAny_pure ⟨Code.quiet_builtin _ (by decide +kernel), codeAny_builtin F.entry_type_call ?_⟩
  rw [Around.under_plain (weight_type_call_type "set" [.ref l] []) rfl]
  have t1 := F.called_set.notType
  have t2 := F.called_set.canCreate
  have t3 := F.typeCall_set_1 (.ref l)
  repeat (any_goals (first | assumption | wp_step))
  refine codeAny_mono (code_set_led1 (.ref l) (E := E) (Q₁ := fun u s₁ => u = .ref s.heap.objs.size ∧ s₁ = { s with heap := s.heap.push (set0 w) }) ⟨rfl, rfl⟩) fun r s₁ hr => ?_
  cases r with
  | error e => exact hr
  | ok fl =>
    cases fl with
    | ret obj =>
      obtain ⟨rfl, rfl⟩ := hr
      have isSet : Shared.TypeIs { s with heap := s.heap.push (set0 w) } (.ref s.heap.objs.size) "set" := ⟨_, Heap.get?_push_size _ rfl, rfl⟩
      have li := F.called_set.init.lookup
      have bi := F.called_set.init.bind (.ref s.heap.objs.size)
      repeat (any_goals (first | assumption | wp_step))
      refine codeAny_mono (codeAny_call_builtin (R := wants (fun r s₂ => r = .none ∧ Filled P w s ks s₂) E) F.called_set.init.plain F.entry_set_init (check_set_init_1 isSet ?_)) fun r₂ s₂ hr₂ => ?_
      · exact init_set ks (by simp [hh]) hl hit hk D hD few (by omega)
      · cases r₂ with
        | error e => exact hr₂
        | ok fl₂ =>
          cases fl₂ with
          | ret r =>
            obtain ⟨rfl, fl⟩ := hr₂
            repeat (any_goals (first | assumption | wp_step))
            exact q _ fl
          | _ => exact hr₂.elim
    | _ => exact hr.elim
end
end DQ

set_option Elab.async false
set_option linter.all false
set_option maxRecDepth 100000
set_option maxHeartbeats 3200000
namespace DQ
open PySem PySem.Spec PyProof.Rows L2
/-! ### sorted(set), the layer's rules -/
def keyD : Key → PyData
  | .inl i => .int i
  | .inr x => .str x
def encM (p : Kd) : PyData := .tuple (p.2.map keyD)
theorem perm_map {α β : Type} {f : α → β} {xs ys : List β} (p : xs.Perm ys) : ∀ L : List α, ys = L.map f → ∃ L1 : List α, xs = L1.map f ∧ L1.Perm L := by
  induction p with
  | nil => intro L e; exact ⟨[], rfl, by rw [List.map_eq_nil_iff.mp e.symm]⟩
  | @cons x l1 l2 p ih =>
    intro L e
    cases L with
    | nil => cases e
    | cons y L =>
      injection e with e1 e2
      obtain ⟨L1, h1, h2⟩ := ih L e2
      exact ⟨y :: L1, by rw [List.map_cons, h1, e1], h2.cons y⟩
  | swap x y l =>
    intro L e
    match L, e with
    | u :: v :: L, e =>
      injection e with e1 e2
      injection e2 with e2 e3
      exact ⟨v :: u :: L, by rw [List.map_cons, List.map_cons, e1, e2, e3], .swap ..⟩
  | trans p1 p2 i1 i2 =>
    intro L e
    obtain ⟨L1, h1, h2⟩ := i2 L e
    obtain ⟨L2, h3, h4⟩ := i1 L1 h1
    exact ⟨L2, h3, h4.trans h2⟩
section
variable {P : Program} {w : World} {A : Around} {E : Value → Shared → Prop} {s : Shared}
theorem key_reads {h : Heap} : ∀ {k : List Key} {vs : List Value}, ItemsAre (mixKind P w) k vs → ReadsAll h vs (k.map keyD) []
  | _, _, .nil => .nil
  | _, _, .cons r t => by
    rcases keyIs_shape r with ⟨i, u, e1, e2⟩ | ⟨x, u, e1, e2⟩ <;> rw [e1, e2]
    · exact ReadsAll.cons (Reads.int _ _) (key_reads t)
    · exact ReadsAll.cons (Reads.str _ _) (key_reads t)
theorem isM_reads {h : Heap} {k : List Key} {b : Addr} (x : IsM P w h k b) : Reads h (.ref b) (.tuple (k.map keyD)) [] := by
  obtain ⟨o, its, n, ho, hc, hd, hi⟩ := x
  exact Reads.tuple ho hc hd (key_reads hi)
theorem depth_keys : ∀ k : List Key, PyData.depthAll (k.map keyD) = 0
  | [] => by simp [PyData.depthAll]
  | x :: k => by
    rw [List.map_cons, PyData.depthAll, depth_keys k]
    cases x <;> simp [keyD, PyData.depth]
theorem each_refs : ∀ {vs : List Value} {l : List Kd}, PySem.W.EachIs (fun (v : Value) (p : Kd) => v = .ref p.1) vs l → vs = l.map fun p => Value.ref p.1
  | _, _, .nil => rfl
  | _, _, .cons r t => by rw [List.map_cons, r, each_refs t]
theorem sorted_mix {a : Addr} {es : Array (Int × Value)} {ep : Nat} {t : SetTable} (M : SetM P w s.heap a es ep t) {L : List Kd} (rows : es.toList.Perm (L.map (rowM P w))) (hh : A.handled = none) (hu : A.units + 64 < cLine) (hk : ∀ p ∈ L, IsM P w s.heap p.2 p.1)
    (al : PySem.W.AllAlike (L.map encM)) (so : PySem.W.Sortable (L.map encM)) {Q : Value → Shared → Prop}
    (q : ∀ s' p (out : List Value) c (L1 : List Kd), (∀ b o, s.heap.get? b = some o → s'.heap.get? b = some o) → s'.gens = s.gens → s'.os = s.os → s.heap.objs.size ≤ p → s'.heap.get? p = some (seqObj "list" out.toArray c) → L1.Perm L → out = (L1.mergeSort (PySem.W.dataLe false encM)).map (fun p => Value.ref p.1) → Q (.ref p) s') :
    wpAny (model P w) A (call (.builtin "sorted") [.ref a]) Q E s := by
  obtain ⟨o, ho, hex, hd⟩ := M.ob
  have few := M.few
  refine Calls.call_function_entry kind_sorted plain_sorted entry_sorted (args_sorted1 _) ?_
  unfold Builtin.«sorted»
  refine wpAny_bind (m := checkCount "sorted" 1 1 _) (wpAny_pure (wpAny_bind (collect_set (A := A.in1) hh ⟨o, ho, hex.1, hd⟩ M.fits (by unfold scanBound; omega) M.tab.ris M.led fun s1 vs k1 hz g1 o1 pm => ?_)))
  have pm2 : vs.Perm (L.map fun p => Value.ref p.1) := by
    have z := rows.map (fun e : Int × Value => e.2)
    rw [List.map_map] at z
    exact pm.trans z
  obtain ⟨L1, rfl, pL⟩ := perm_map pm2 L rfl
  have lL : L1.length < 64 := by
    have z := rows.length_eq
    rw [Array.length_toList, List.length_map] at z
    rw [pL.length_eq]; omega
  refine wpAny_bind (wpAny_newList ?_ (by rw [sizeLine_eq, List.length_map]; omega))
  have hoL : (s1.heap.push (seqObj "list" (L1.map fun p => Value.ref p.1).toArray 0)).get? s1.heap.objs.size = some (seqObj "list" (L1.map fun p => Value.ref p.1).toArray 0) := Heap.get?_push_size _ rfl
  have ea : ∀ {l : List Kd}, (∀ p ∈ l, p ∈ L) → PySem.W.EachIs (fun (v : Value) (p : Kd) => v = .ref p.1) (l.map fun p => Value.ref p.1) l := fun {l} h => by
    induction l with
    | nil => exact .nil
    | cons p l ih => exact .cons rfl (ih fun r hr => h r (List.mem_cons_of_mem _ hr))
  have er : ∀ {l : List Kd}, (∀ p ∈ l, p ∈ L) → PySem.W.EachIs (fun (v : Value) (p : Kd) => ∃ as, Reads (s1.heap.push (seqObj "list" (L1.map fun p => Value.ref p.1).toArray 0)) v (encM p) as ∧ s1.heap.objs.size ∉ as) (l.map fun p => Value.ref p.1) l := fun {l} h => by
    induction l with
    | nil => exact .nil
    | cons p l ih => exact .cons ⟨[], isM_reads (isM_keep (hk p (h p List.mem_cons_self)) fun c u e => Heap.get?_push_of_some _ (k1 c u e)), by simp⟩ (ih fun r hr => h r (List.mem_cons_of_mem _ hr))
  have inL : ∀ p ∈ L1, p ∈ L := fun p hp => pL.mem_iff.mp hp
  have al1 : PySem.W.AllAlike (L1.map encM) := fun d hd d' hd' => al d ((pL.map encM).mem_iff.mp hd) d' ((pL.map encM).mem_iff.mp hd')
  have so1 : PySem.W.Sortable (L1.map encM) := by
    rcases so with h | h
    · exact .inl fun d hd => h d ((pL.map encM).mem_iff.mp hd)
    · exact .inr fun d hd => h d ((pL.map encM).mem_iff.mp hd)
  refine wpAny_bind (wpAny_holding (PySem.W.list_sort_data (enc := encM) hoL (ea inL) (er inL) al1 so1 (by rw [sizeLine_eq]; omega) (fun p _ => ?_) fun out lo eo => ?_))
  · show _ + (PyData.tuple (p.2.map keyD)).depth < cLine
    rw [PyData.depth, depth_keys]
    show A.units + 1 + 1 + (0 + 1) < cLine
    omega
  obtain ⟨c, hc⟩ := sortedHeap_at (vs := L1.map fun p => Value.ref p.1) (out := out.toArray) hoL
  refine wpAny_pure ⟨_, rfl, q _ s1.heap.objs.size out c L1 (fun b u e => ?_) g1 o1 hz hc pL (each_refs eo)⟩
  have z := k1 b u e
  have lt := Heap.lt_size z
  show (sortedHeap (s1.heap.push (seqObj "list" (L1.map fun p => Value.ref p.1).toArray 0)) s1.heap.objs.size (L1.map fun p => Value.ref p.1) out.toArray).get? b = some u
  rw [sortedHeap_old (Nat.ne_of_lt lt) (by rw [size_push']; exact Nat.lt_succ_of_lt lt)]
  exact Heap.get?_push_of_some _ z
end
/-- the set at a, without its tuples -/
structure SetB (P : Program) (w : World) (h : Heap) (a : Addr) (L : List Kd) : Prop where
  ex : ∃ (es : Array (Int × Value)) (ep : Nat) (t : SetTable), (∃ o, h.get? a = some o ∧ o.ExactSet ∧ o.data = .set es ep t) ∧ TabOk t (es.toList.map (·.1)) ∧ es.toList.Perm (L.map (rowM P w)) ∧ (w.params.followText "set-order" = true ∨ t.led = true) ∧ es.size * 5 < t.mask * 3 ∧ es.size < 64
  nd : (L.map (·.2)).Nodup
def SetO (P : Program) (w : World) (a : Addr) (L : List Kd) : HO := .ext fun h => SetB P w h a L
theorem setO_new {P : Program} {w : World} {H : Hp} {h : Heap} {a : Addr} {L : List Kd} (B : SetB P w h a L) : ObjOk P w H h a (SetO P w a L) := by
  have ⟨⟨es, ep, t, ⟨o, ho, r⟩, q⟩, nd⟩ := B
  refine ⟨B, ⟨o, ho⟩, fun h1 h2 p k => ?_⟩
  have ⟨⟨es', ep', t', ⟨o', ho', r'⟩, q'⟩, nd'⟩ := (p : SetB P w h1 a L)
  exact ⟨⟨es', ep', t', ⟨o', k o' ho', r'⟩, q'⟩, nd'⟩
theorem SetB.full {P : Program} {w : World} {h : Heap} {a : Addr} {L : List Kd} (B : SetB P w h a L) (hk : ∀ p ∈ L, IsM P w h p.2 p.1) : ∃ es ep t, SetM P w h a es ep t ∧ es.toList.Perm (L.map (rowM P w)) := by
  obtain ⟨⟨es, ep, t, ob, T, rows, ld, room, few⟩, nd⟩ := B
  have key : ∀ p ∈ L, KeyAt P w h (rowM P w p) p.2 := fun p hp => ⟨p.1, rfl, hk p hp⟩
  refine ⟨es, ep, t, ⟨ob, T, fun e he => ?_, Apart.perm (List.pairwise_map.mpr (List.Pairwise.imp_of_mem (fun {p r} hp hr ne k x y => ne ?_) (List.pairwise_map.mp nd))) rows, ld, room, few⟩, rows⟩
  · obtain ⟨p, hp, r⟩ := List.mem_map.mp (rows.mem_iff.mp he)
    exact ⟨p.2, by rw [← r]; exact key p hp⟩
  · rw [key_one (key p hp) x, key_one (key r hr) y]
theorem Fed.box {P : Program} {w : World} {h : Heap} {a : Addr} {ks : List Kd} {i : Nat} {es : Array (Int × Value)} {ep : Nat} {t : SetTable} {L : List Kd} (M : SetM P w h a es ep t) (g : Fed P w ks i es L) : SetB P w h a L := ⟨⟨es, ep, t, M.ob, M.tab, g.rows, M.led, M.room, M.few⟩, g.nd⟩
theorem refs_only : ∀ {ks : List Kd} {us : List Value}, Vals (ks.map fun p => V.ref p.1) us → us = ks.map fun p => Value.ref p.1
  | [], _, .nil => rfl
  | p :: ks, _, .cons r t => by
    obtain rfl := (show _ = Value.ref p.1 from r)
    rw [List.map_cons, refs_only t]
section
variable {X : Cx}
/-- set(xs), at most 63 different keys -/
def rSetM (P : Program) (w : World) (K : PySem.W.Frag) : List V → Hp → VK → Prop := fun xs H Q => ∃ (l : Addr) (ks : List Kd) (D : List (List Key)), xs = [.ref l] ∧ SqL K H l (ks.map fun p => V.ref p.1) ∧ (∀ p ∈ ks, H p.1 = some (.tup (p.2.map kV))) ∧ (∀ p ∈ ks, p.2 ∈ D) ∧ D.length < 64 ∧
  ∀ a L, H a = none → (L.map (·.2)).Nodup → (∀ p ∈ L, p ∈ ks) → (∀ p ∈ ks, p.2 ∈ L.map (·.2)) → Q (.ref a) (upd H a (SetO P w a L))
theorem cr_setM (hc : X.calm = true) (hu : X.A.units + 64 < cLine) : CallR X (.type "set") (rSetM X.prog X.w X.K) := by
  intro pins s σ H xs us Q I r h
  obtain ⟨l, ks, D, rfl, hl, hk, hD, few, q⟩ := h
  rw [Vals.ref1 r]
  obtain ⟨its, rv, pl, hz⟩ := I.list hl
  have hn : H s.heap.objs.size = none := I.hok.fresh (Nat.le_refl _)
  refine call_set_mix (P := X.prog) (w := X.w) ks (I.ok.hd hc) pl.isList (by simpa using refs_only rv) (fun p hp => key_of I.hok (hk p hp)) D hD few (by omega) fun s2 F => ?_
  obtain ⟨h', tk, es, ep, t, L, rfl, M, g, k⟩ := F
  refine ⟨.ref s.heap.objs.size, upd H s.heap.objs.size (SetO X.prog X.w s.heap.objs.size L), I.laid (t' := tk) k (Nat.le_refl _) (setO_new (g.box M)), rfl, q _ L hn g.nd (fun p hp => List.mem_of_mem_take (g.sub p hp)) fun p hp => g.all p (by rw [List.take_length]; exact hp)⟩
def rSortM (P : Program) (w : World) : List V → Hp → VK → Prop := fun xs H Q => ∃ (a : Addr) (L : List Kd), xs = [.ref a] ∧ H a = some (SetO P w a L) ∧ (∀ p ∈ L, H p.1 = some (.tup (p.2.map kV))) ∧ PySem.W.AllAlike (L.map encM) ∧ PySem.W.Sortable (L.map encM) ∧
  ∀ (L1 : List Kd) (p : Addr), L1.Perm L → H p = none → Q (.ref p) (upd H p (.lst ((L1.mergeSort (PySem.W.dataLe false encM)).map fun p => V.ref p.1)))
theorem vals_refs : ∀ l : List Kd, Vals (l.map fun p => V.ref p.1) (l.map fun p => Value.ref p.1)
  | [] => .nil
  | p :: l => .cons rfl (vals_refs l)
theorem cr_sortM (hc : X.calm = true) (hu : X.A.units + 64 < cLine) : CallR X (.builtin "sorted") (rSortM X.prog X.w) := by
  intro pins s σ H xs us Q I r h
  obtain ⟨a, L, rfl, ha, hk, al, so, q⟩ := h
  have hk' : ∀ p ∈ L, IsM X.prog X.w s.heap p.2 p.1 := fun p hp => key_of I.hok (hk p hp)
  obtain ⟨es, ep, t, M, rows⟩ := SetB.full ((I.hok a _ ha).1 : SetB X.prog X.w s.heap a L) hk'
  rw [Vals.ref1 r]
  refine sorted_mix M rows (I.ok.hd hc) hu hk' al so fun s' p out c L1 k g o hp hg pm eo => ?_
  have few := M.few
  have hlen : ((L1.mergeSort (PySem.W.dataLe false encM)).map fun p => V.ref p.1).length ≤ sizeLine := by
    have z := rows.length_eq
    rw [Array.length_toList, List.length_map] at z
    rw [List.length_map, List.length_mergeSort, pm.length_eq, sizeLine_eq]; omega
  have hn : H p = none := I.hok.fresh hp
  have hv : Vals ((L1.mergeSort (PySem.W.dataLe false encM)).map fun p => V.ref p.1) out := by rw [eo]; exact vals_refs _
  have J : Inv X pins σ (upd H p (.lst ((L1.mergeSort (PySem.W.dataLe false encM)).map fun p => V.ref p.1))) { s with heap := s'.heap, gens := s'.gens, drawn := s'.drawn, toks := s'.toks } :=
    I.call (ch := []) (Un.laid k hp hn) (I.hok.laid k hp ⟨hlen, out, c, hv, hg⟩) (by rw [g]; exact I.bare) (fun _ z => nomatch z)
  have e : s' = { s with heap := s'.heap, gens := s'.gens, drawn := s'.drawn, toks := s'.toks } := by
    obtain ⟨_, _, _, _, _⟩ := s'
    obtain ⟨_, _, _, _, _⟩ := s
    cases o; rfl
  rw [e]
  exact ⟨.ref p, _, J, rfl, q L1 p pm hn⟩
end
end DQ

set_option Elab.async false
set_option linter.all false
set_option maxRecDepth 100000
set_option maxHeartbeats 400000
namespace DQ
open PySem PySem.Spec PyProof.Rows L2
/-! ### links that clash -/
def clashes : Fact → Fact → Bool
  | .link c a b, .link c' a' b' => decide (c = c') && ((decide (a = a') && !decide (b = b')) || (decide (b = b') && !decide (a = a')))
  | _, _ => false
def NoClash (fs : List Fact) : Prop := ∀ x ∈ fs, ∀ y ∈ fs, clashes x y = false
theorem clashes_self (x : Fact) : clashes x x = false := by
  cases x with
  | mark _ _ => rfl
  | link c a b => simp [clashes]
theorem clashes_comm (x y : Fact) : clashes x y = clashes y x := by
  cases x with
  | mark _ _ => cases y <;> rfl
  | link c a b =>
    cases y with
    | mark _ _ => rfl
    | link c' a' b' =>
      show (decide (c = c') && ((decide (a = a') && !decide (b = b')) || (decide (b = b') && !decide (a = a')))) = (decide (c' = c) && ((decide (a' = a) && !decide (b' = b)) || (decide (b' = b) && !decide (a' = a))))
      rw [show decide (c = c') = decide (c' = c) from decide_eq_decide.mpr ⟨Eq.symm, Eq.symm⟩, show decide (a = a') = decide (a' = a) from decide_eq_decide.mpr ⟨Eq.symm, Eq.symm⟩, show decide (b = b') = decide (b' = b) from decide_eq_decide.mpr ⟨Eq.symm, Eq.symm⟩]
theorem noClash_snoc {fs : List Fact} {y : Fact} (h : NoClash fs) (n : ∀ x ∈ fs, clashes x y = false) : NoClash (fs ++ [y]) := fun x hx z hz => by
  rcases List.mem_append.mp hx with hx | hx <;> rcases List.mem_append.mp hz with hz | hz
  · exact h x hx z hz
  · rw [List.mem_singleton.mp hz]
    exact n x hx
  · rw [List.mem_singleton.mp hx, clashes_comm]
    exact n z hz
  · rw [List.mem_singleton.mp hx, List.mem_singleton.mp hz]
    exact clashes_self y
def isFrom (c : Str) (a : Int) : Fact → Bool
  | .link c' a' _ => decide (c' = c) && decide (a' = a)
  | _ => false
def isTo (c : Str) (b : Int) : Fact → Bool
  | .link c' _ b' => decide (c' = c) && decide (b' = b)
  | _ => false
/-- the first whose fact is such a one -/
def firstOf (p : Fact → Bool) (zs : List (V × Fact)) : Option V := (zs.find? fun z => p z.2).map (·.1)
theorem firstOf_snoc (p : Fact → Bool) (zs : List (V × Fact)) (z : V × Fact) : firstOf p (zs ++ [z]) = (firstOf p zs).or (if p z.2 = true then some z.1 else none) := by
  unfold firstOf
  rw [List.find?_append]
  cases zs.find? fun z => p z.2 with
  | some y => rfl
  | none =>
    by_cases h : p z.2 = true
    · rw [List.find?_cons_of_pos (by exact h), if_pos h]
      rfl
    · rw [List.find?_cons_of_neg (by exact h), if_neg h]
      rfl
theorem firstOf_some {p : Fact → Bool} {zs : List (V × Fact)} {v : V} (h : firstOf p zs = some v) : ∃ x, (v, x) ∈ zs ∧ p x = true := by
  unfold firstOf at h
  obtain ⟨z, hz, e⟩ := Option.map_eq_some_iff.mp h
  exact ⟨z.2, by rw [← e]; exact List.mem_of_find?_eq_some hz, by simpa using List.find?_some hz⟩
theorem firstOf_none {p : Fact → Bool} {zs : List (V × Fact)} (h : firstOf p zs = none) : ∀ z ∈ zs, p z.2 = false := by
  unfold firstOf at h
  have h := Option.map_eq_none_iff.mp h
  exact fun z hz => Bool.eq_false_iff.mpr (List.find?_eq_none.mp h z hz)
def kF (c : Str) (a : Int) : List Key := [.inr c, .inr "from", .inl a]
def kT (c : Str) (b : Int) : List Key := [.inr c, .inr "to", .inl b]
theorem kF_inj {c c' : Str} {a a' : Int} : kF c a = kF c' a' ↔ c = c' ∧ a = a' := by
  unfold kF
  constructor
  · intro h
    simp only [List.cons.injEq, Sum.inr.injEq, Sum.inl.injEq, and_true, true_and] at h
    exact h
  · rintro ⟨rfl, rfl⟩
    rfl
theorem kT_inj {c c' : Str} {a a' : Int} : kT c a = kT c' a' ↔ c = c' ∧ a = a' := by
  unfold kT
  constructor
  · intro h
    simp only [List.cons.injEq, Sum.inr.injEq, Sum.inl.injEq, and_true, true_and] at h
    exact h
  · rintro ⟨rfl, rfl⟩
    rfl
theorem kFT {c c' : Str} {a a' : Int} : kF c a ≠ kT c' a' := fun h => by
  unfold kF kT at h
  simp only [List.cons.injEq, Sum.inr.injEq] at h
  exact absurd h.2.1 (by decide)
theorem str_beq {x y : Str} : (x == y) = true ↔ x = y := ⟨fun h => eq_of_beq h, fun h => by rw [h]; exact beq_self_eq_true y⟩
theorem fact_eqv (x y : Fact) : PyData.eqv x.d y.d = true ↔ x = y := by
  cases x with
  | mark m i =>
    cases y with
    | mark m' i' =>
      simp only [Fact.d, PyData.eqv, PyData.eqvAll, Bool.and_true, Fact.mark.injEq, Bool.and_eq_true, str_beq, beq_iff_eq, true_and]
    | link c a b =>
      simp only [Fact.d, PyData.eqv, PyData.eqvAll, Bool.and_eq_true, str_beq]
      exact ⟨fun h => absurd h.1 (by decide), fun h => nomatch h⟩
  | link c a b =>
    cases y with
    | mark m' i' =>
      simp only [Fact.d, PyData.eqv, PyData.eqvAll, Bool.and_eq_true, str_beq]
      exact ⟨fun h => absurd h.1 (by decide), fun h => nomatch h⟩
    | link c' a' b' =>
      simp only [Fact.d, PyData.eqv, PyData.eqvAll, Bool.and_true, Fact.link.injEq, Bool.and_eq_true, str_beq, beq_iff_eq, true_and]
def Fact.word : Fact → Str
  | .mark m _ => m
  | .link c _ _ => c
theorem fact_shaped (x : Fact) (h : PyData.canLay0 (.str x.word) = true) : SeqAt.shaped x.d = true := by
  have e1 : PyData.canLay0 (.str "mark") = true := by decide +kernel
  have e2 : PyData.canLay0 (.str "link") = true := by decide +kernel
  have dep := fact_depth x
  show (PyData.canLay0 x.d && decide (x.d.depth ≤ 64)) = true
  rw [decide_eq_true (by omega), Bool.and_true]
  cases x with
  | mark m i =>
    have h : PyData.canLay0 (.str m) = true := h
    simp only [Fact.d, PyData.canLay0, PyData.canLayAll0, Bool.and_true] at h e1 e2 ⊢
    rw [e1, h]
    rfl
  | link c a b =>
    have h : PyData.canLay0 (.str c) = true := h
    simp only [Fact.d, PyData.canLay0, PyData.canLayAll0, Bool.and_true] at h e1 e2 ⊢
    rw [e2, h]
    rfl
end DQ

set_option Elab.async false
set_option linter.all false
set_option maxRecDepth 100000
set_option maxHeartbeats 400000
namespace DQ
open PySem PySem.Spec PyProof.Rows L2
abbrev sClash : Stmt := topS 25
abbrev NC : List Str := ["facts", "taken", "fact", "_", "column", "one", "other", "from_one", "to_other"]
theorem scClash : FnScope NC ["facts"] (defScope sClash) := ⟨rfl, rfl, rfl, by decide +kernel, rfl, by decide +kernel, by decide +kernel⟩
theorem both {Q : VK} {R : V → Prop} {N : Prop} {H3 H4 : Hp} {z : V} (P7 : V → Hp → Prop) (h1 : ∀ v, R v → P7 v H3) (h2 : N → P7 z H4) (h : ∀ v H, P7 v H → Q v H) : (∀ v, R v → Q v H3) ∧ (N → Q z H4) := ⟨fun v r => h _ _ (h1 v r), fun n => h _ _ (h2 n)⟩
theorem isFrom_iff {c : Str} {p : Int} {x : Fact} : isFrom c p x = true ↔ ∃ q, x = .link c p q := by
  cases x with
  | mark _ _ => exact ⟨fun h => absurd h (by simp [isFrom]), fun ⟨q, e⟩ => nomatch e⟩
  | link c' a b =>
    show (decide (c' = c) && decide (a = p)) = true ↔ _
    rw [Bool.and_eq_true, decide_eq_true_iff, decide_eq_true_iff]
    exact ⟨fun ⟨h1, h2⟩ => ⟨b, by rw [h1, h2]⟩, fun ⟨q, e⟩ => by cases e; exact ⟨rfl, rfl⟩⟩
theorem isTo_iff {c : Str} {p : Int} {x : Fact} : isTo c p x = true ↔ ∃ q, x = .link c q p := by
  cases x with
  | mark _ _ => exact ⟨fun h => absurd h (by simp [isTo]), fun ⟨q, e⟩ => nomatch e⟩
  | link c' a b =>
    show (decide (c' = c) && decide (b = p)) = true ↔ _
    rw [Bool.and_eq_true, decide_eq_true_iff, decide_eq_true_iff]
    exact ⟨fun ⟨h1, h2⟩ => ⟨a, by rw [h1, h2]⟩, fun ⟨q, e⟩ => by cases e; exact ⟨rfl, rfl⟩⟩
theorem clash_from {c : Str} {p q r : Int} (h : q ≠ r) : clashes (.link c p q) (.link c p r) = true := by simp [clashes, h]
theorem clash_to {c : Str} {p q r : Int} (h : q ≠ r) : clashes (.link c q p) (.link c r p) = true := by simp [clashes, h]
theorem no_clash {x y : Fact} (h1 : ∀ c p q r, y = .link c p q → x = .link c p r → x = y) (h2 : ∀ c p q r, y = .link c q p → x = .link c r p → x = y) : clashes x y = false := by
  refine Bool.eq_false_iff.mpr fun h => ?_
  cases x with
  | mark _ _ => exact absurd h (by simp [clashes])
  | link c a b =>
    cases y with
    | mark _ _ => exact absurd h (by simp [clashes])
    | link c' a' b' =>
      simp only [clashes, Bool.and_eq_true, Bool.or_eq_true, decide_eq_true_iff, Bool.not_eq_true', decide_eq_false_iff_not] at h
      obtain ⟨rfl, h⟩ := h
      rcases h with ⟨rfl, h⟩ | ⟨rfl, h⟩
      · have z := h1 _ _ _ _ rfl rfl
        cases z
        exact h rfl
      · have z := h2 _ _ _ _ rfl rfl
        cases z
        exact h rfl
/-- what a key's first fact tells of a fact behind it -/
structure Seen (p : Fact → Bool) (fs : List Fact) (x x7 : Fact) : Prop where
  same : x7 = x → ∀ y ∈ fs, p y = true → y = x
  other : x7 ≠ x → x7 ∈ fs ∧ clashes x7 x = true
theorem zip_take_mem {rs : List V} {fs : List Fact} (l : rs.length = fs.length) {i : Nat} {v : V} {x : Fact} (h : (v, x) ∈ (rs.zip fs).take i) : x ∈ fs.take i := by
  have z : x ∈ ((rs.zip fs).take i).map (·.2) := List.mem_map.mpr ⟨_, h, rfl⟩
  rwa [List.map_take, List.map_snd_zip (Nat.le_of_eq l.symm)] at z
theorem zip_take_of {rs : List V} {fs : List Fact} (l : rs.length = fs.length) {i : Nat} {x : Fact} (h : x ∈ fs.take i) : ∃ v, (v, x) ∈ (rs.zip fs).take i := by
  have z : x ∈ ((rs.zip fs).take i).map (·.2) := by rwa [List.map_take, List.map_snd_zip (Nat.le_of_eq l.symm)]
  obtain ⟨⟨v, y⟩, hz, rfl⟩ := List.mem_map.mp z
  exact ⟨v, hz⟩
theorem seen_some {rs : List V} {fs : List Fact} (l : rs.length = fs.length) {i : Nat} {p : Fact → Bool} {x : Fact} {v : V} (hp : ∀ y, p y = true → y ≠ x → clashes y x = true) (nc : NoClash (fs.take i)) (h : firstOf p ((rs.zip fs).take i) = some v) :
    ∃ x7, (v, x7) ∈ (rs.zip fs).take i ∧ Seen p (fs.take i) x x7 := by
  obtain ⟨x7, h1, h2⟩ := firstOf_some h
  have m := zip_take_mem l h1
  refine ⟨x7, h1, fun e y hy py => ?_, fun ne => ⟨m, hp x7 h2 ne⟩⟩
  by_cases z : y = x
  · exact z
  · have := nc y hy x7 m
    rw [e, hp y py z] at this
    exact nomatch this
theorem seen_none {rs : List V} {fs : List Fact} (l : rs.length = fs.length) {i : Nat} {p : Fact → Bool} {x : Fact} (h : firstOf p ((rs.zip fs).take i) = none) : Seen p (fs.take i) x x := by
  refine ⟨fun _ y hy py => ?_, fun ne => absurd rfl ne⟩
  obtain ⟨v, hv⟩ := zip_take_of l hy
  have := firstOf_none h _ hv
  rw [py] at this
  exact nomatch this
theorem next_some {zs : List (V × Fact)} {i : Nat} {z : V × Fact} {p : Fact → Bool} (hz : zs[i]? = some z) (h : p z.2 = true → (firstOf p (zs.take i)).isSome = true) : firstOf p (zs.take (i + 1)) = firstOf p (zs.take i) := by
  rw [take_next hz, firstOf_snoc]
  by_cases e : p z.2 = true
  · obtain ⟨v, hv⟩ := Option.isSome_iff_exists.mp (h e)
    rw [hv]
    rfl
  · rw [if_neg e, Option.or_none]
theorem next_none {zs : List (V × Fact)} {i : Nat} {z : V × Fact} {p : Fact → Bool} (hz : zs[i]? = some z) (e : p z.2 = true) (h : firstOf p (zs.take i) = none) : firstOf p (zs.take (i + 1)) = some z.1 := by
  rw [take_next hz, firstOf_snoc, h, if_pos e]
  rfl
section
variable {P : Program} {w : World} {K : PySem.W.Frag} {mg : Str → Option Value} {base : Heap}
def spClash (K : PySem.W.Frag) : Sp := fun vs H Q _ => ∃ (a : Addr) (rs : List V) (fs : List Fact), vs = [.ref a] ∧ SqL K H a rs ∧ Tups H rs (fs.map Fact.v) ∧ (∀ x ∈ fs, PyData.canLay0 (.str x.word) = true) ∧ fs.length ≤ 10000 ∧
  (∀ H', Same H H' → NoClash fs → Q .non H') ∧ ∀ i y v H', Same H H' → fs[i]? = some y → rs[i]? = some v → NoClash (fs.take i) → (∃ x ∈ fs.take i, clashes x y = true) → Q v H'
theorem ok_clash {f : Addr} {fd : FuncData} (F : Fun K "first_clash" "first_clash" sClash f fd) : FnOk P w K mg base CX0 1 f fd ["facts"] (spClash K) := by
  refine F.ok scClash (fun vs H Q E h => ?_) (fun cdv A outer s H vs Q E hr h => ?_)
  · obtain ⟨_, _, _, rfl, _⟩ := h
    rfl
  obtain ⟨a, rs, fs, rfl, hs, tp, lay, few, q1, q2⟩ := h
  have nd := scClash.nd
  refine ⟨_, (pss_cons (ps_set (i := 1) nd rfl (.inl rfl) pe_dnewT)
    (pss_cons (ps_for PassesOwn.never rfl (pi_list (pv 0)) (pg_name (i := 2) nd rfl (.inl rfl)) (pss_one (ps_if (pt_cmpR op_eq (pe_ix (r := rIxT K) ix_tup (pv 2) pe_int (fun _ _ => rfl)) pe_str (nomark _))
      (pss_cons (ps_asg (pv 2) (pg_tup rfl (pgs_cons (pg_name (i := 3) nd rfl (.inl rfl)) (pgs_cons (pg_name (i := 4) nd rfl (.inl rfl)) (pgs_cons (pg_name (i := 5) nd rfl (.inl rfl)) (pgs_cons (pg_name (i := 6) nd rfl (.inl rfl)) pgs_nil))))))
      (pss_cons (ps_set (i := 7) nd rfl (.inl rfl) (pe_dsetdT (room1 hr) (pv 1) (pe_tup (pa_cons (pv 4) (pa_cons pe_str (pa_cons (pv 5) pa_nil)))) (pv 2) (by constructor <;> rfl)))
      (pss_cons (ps_set (i := 8) nd rfl (.inl rfl) (pe_dsetdT (room1 hr) (pv 1) (pe_tup (pa_cons (pv 4) (pa_cons pe_str (pa_cons (pv 6) pa_nil)))) (pv 2) (by constructor <;> rfl)))
      (pss_one (ps_if (PW.pt (pw_or (pt_cmpR (op_neD hr.units) (pv 7) (pv 2) (nomark _)) (pw_or1 (pt_cmpR (op_neD hr.units) (pv 8) (pv 2) (nomark _))))) (pss_one (ps_ret (pv 2))) pss_nil)))))
      pss_nil)))
    (pss_one (ps_ret pe_non)))), ?_⟩
  intro D nD
  have sD := same_new nD (o := .dT [])
  have eD0 : upd H D (.dT []) D = some (.dT []) := upd_same
  generalize upd H D (.dT []) = H0 at sD eD0 ⊢
  have lr : rs.length = fs.length := by rw [tp.length, List.length_map]
  refine ⟨_, rfl, a, rfl, ⟨_, L2.Same.seq sD hs⟩, for_list (K := K) (a := a) (xs := rs) (fun i σ H' => ∃ (kvs : List (List Key × V)) (y2 y3 y4 y5 y6 y7 y8 : Option V), σ = [some (.ref a), some (.ref D), y2, y3, y4, y5, y6, y7, y8] ∧ Same H H' ∧ H' D = some (.dT kvs) ∧ kvs.length ≤ 2 * i ∧
      (∀ c x, valV kvs (kF c x) = firstOf (isFrom c x) ((rs.zip fs).take i)) ∧ (∀ c x, valV kvs (kT c x) = firstOf (isTo c x) ((rs.zip fs).take i)) ∧ NoClash (fs.take i))
    ⟨[], none, none, none, none, none, none, none, rfl, sD, eD0, Nat.le_refl _, fun _ _ => rfl, fun _ _ => rfl, fun x h => by cases h⟩ (fun i σ H' _ hP => ?_) (fun i v σ H' hx hP => ?_) fun σ H' hP => ?_⟩
  · obtain ⟨_, _, _, _, _, _, _, _, _, sm, _⟩ := hP
    exact L2.Same.seq sm hs
  · obtain ⟨kvs, y2, y3, y4, y5, y6, y7, y8, rfl, sm, eD, lk, hF, hT, nc⟩ := hP
    obtain ⟨t, tv, rfl, ht, htv⟩ := tp.get hx
    obtain ⟨x, hxf, rfl⟩ := at_map htv
    have hi : i < fs.length := (List.getElem?_eq_some_iff.mp hxf).1
    have hz : (rs.zip fs)[i]? = some (.ref t, x) := List.getElem?_zip_eq_some.mpr ⟨hx, hxf⟩
    have lx := lay x (List.mem_of_getElem? hxf)
    have ht' := sm _ _ ht
    have tk : fs.take (i + 1) = fs.take i ++ [x] := take_next hxf
    cases x with
    | mark m it =>
      refine ⟨_, rfl, t, _, 0, .str "mark", rfl, rfl, .inl (.inl ht'), atI_nat (j := 0) rfl, rfl, _, rfl, ?_⟩
      have ne : decide (V.str "mark" = V.str "link") = false := decide_eq_false (fun e => by injection e with e; exact absurd e (by decide))
      rw [ne]
      refine ⟨kvs, _, y3, y4, y5, y6, y7, y8, rfl, sm, eD, by omega, fun c x => ?_, fun c x => ?_, ?_⟩
      · rw [hF, next_some hz (fun e => absurd e (by simp [isFrom]))]
      · rw [hT, next_some hz (fun e => absurd e (by simp [isTo]))]
      · rw [tk]
        exact noClash_snoc nc fun y _ => by cases y <;> rfl
    | link c p q =>
      refine ⟨_, rfl, t, _, 0, .str "link", rfl, rfl, .inl (.inl ht'), atI_nat (j := 0) rfl, rfl, _, rfl, ?_⟩
      rw [decide_eq_true (rfl : V.str "link" = V.str "link")]
      refine ⟨_, rfl, t, _, rfl, .inl (.inl ht'), rfl, .str "link", _, rfl, .str c, _, rfl, .int p, _, rfl, .int q, _, rfl, rfl, ?_⟩
      refine ⟨_, rfl, D, rfl, .inr ⟨kvs, .inl eD⟩, _, rfl, _, rfl, by show 3 ≤ sizeLine; decide, fun T nT => ⟨_, rfl, ?_⟩⟩
      have mT := same_new nT (o := .tup [.str c, .str "from", .int p])
      have eT : upd H' T (.tup [.str c, .str "from", .int p]) T = some (.tup [.str c, .str "from", .int p]) := upd_same
      generalize upd H' T (.tup [.str c, .str "from", .int p]) = H1 at mT eT ⊢
      have eD1 := mT _ _ eD
      have sm1 : L2.Same H H1 := sm.trans mT
      have mem7 : ∀ (v : V) (x7 : Fact), (v, x7) ∈ (rs.zip fs).take i → (∃ t7, v = .ref t7 ∧ H t7 = some (.tup x7.v)) ∧ PyData.canLay0 (.str x7.word) = true := fun v x7 h =>
        ⟨tp.zip _ (List.mem_of_mem_take h), lay _ (List.mem_of_mem_take (zip_take_mem lr h))⟩
      refine ⟨kvs, kF c p, T, eD1, rfl, eT, Nat.lt_of_le_of_lt (show kvs.length ≤ 20000 by omega) (by decide), both (fun v H2 => ∃ (kvs1 : List (List Key × V)) (t7 : Addr) (x7 : Fact), v = .ref t7 ∧ H2 t7 = some (.tup x7.v) ∧ PyData.canLay0 (.str x7.word) = true ∧ Same H H2 ∧ H2 D = some (.dT kvs1) ∧ kvs1.length ≤ 2 * i + 1 ∧ (∀ c x, valV kvs1 (kF c x) = firstOf (isFrom c x) ((rs.zip fs).take (i + 1))) ∧ (∀ c x, valV kvs1 (kT c x) = firstOf (isTo c x) ((rs.zip fs).take i)) ∧ Seen (isFrom c p) (fs.take i) (.link c p q) x7) (fun v hv => ?_) (fun hn => ?_) fun v7 H2 h7 => ?_⟩
      · have hv' := hv
        rw [hF] at hv'
        obtain ⟨x7, hm, seen⟩ := seen_some (x := .link c p q) lr (fun y py ne => by
          obtain ⟨r, rfl⟩ := isFrom_iff.mp py
          exact clash_from fun e => ne (by rw [e])) nc hv'
        obtain ⟨⟨t7, rfl, e7⟩, l7⟩ := mem7 v x7 hm
        refine ⟨kvs, t7, x7, rfl, sm1 _ _ e7, l7, sm1, eD1, by omega, fun c' p' => ?_, hT, seen⟩
        rw [hF, next_some hz fun e => ?_]
        obtain ⟨r, e⟩ := isFrom_iff.mp e
        cases e
        rw [hv']
        rfl
      · have hn' := hn
        rw [hF] at hn'
        refine ⟨putK kvs (kF c p) (.ref t), t, .link c p q, rfl, same_upd sm1 nD _ _ ht, lx, same_upd sm1 nD, upd_same, by have := length_putK kvs (kF c p) (.ref t); omega, fun c' p' => ?_, fun c' p' => ?_, seen_none lr hn'⟩
        · rw [valV_put]
          by_cases e : kF c' p' = kF c p
          · rw [if_pos e]
            obtain ⟨rfl, rfl⟩ := kF_inj.mp e
            exact (next_none hz (isFrom_iff.mpr ⟨q, rfl⟩) hn').symm
          · rw [if_neg e, hF, next_some hz fun k => ?_]
            obtain ⟨r, k⟩ := isFrom_iff.mp k
            cases k
            exact absurd rfl e
        · rw [valV_put, if_neg (fun e => kFT e.symm), hT]
      obtain ⟨kvs1, t7, x7, rfl, e7, l7, sm2, eD2, lk1, hF1, hT1, seen7⟩ := h7
      refine ⟨_, rfl, D, rfl, .inr ⟨kvs1, .inl eD2⟩, _, rfl, _, rfl, by show 3 ≤ sizeLine; decide, fun T2 nT2 => ⟨_, rfl, ?_⟩⟩
      have mT2 := same_new nT2 (o := .tup [.str c, .str "to", .int q])
      have eT2 : upd H2 T2 (.tup [.str c, .str "to", .int q]) T2 = some (.tup [.str c, .str "to", .int q]) := upd_same
      generalize upd H2 T2 (.tup [.str c, .str "to", .int q]) = H3 at mT2 eT2 ⊢
      have eD3 := mT2 _ _ eD2
      have e73 := mT2 _ _ e7
      have sm3 : L2.Same H H3 := sm2.trans mT2
      refine ⟨kvs1, kT c q, T2, eD3, rfl, eT2, Nat.lt_of_le_of_lt (show kvs1.length ≤ 20001 by omega) (by decide), both (fun v H2 => H2 t7 = some (.tup x7.v) ∧ ∃ (kvs1 : List (List Key × V)) (t8 : Addr) (x8 : Fact), v = .ref t8 ∧ H2 t8 = some (.tup x8.v) ∧ PyData.canLay0 (.str x8.word) = true ∧ Same H H2 ∧ H2 D = some (.dT kvs1) ∧ kvs1.length ≤ 2 * i + 2 ∧ (∀ c x, valV kvs1 (kF c x) = firstOf (isFrom c x) ((rs.zip fs).take (i + 1))) ∧ (∀ c x, valV kvs1 (kT c x) = firstOf (isTo c x) ((rs.zip fs).take (i + 1))) ∧ Seen (isTo c q) (fs.take i) (.link c p q) x8) (fun v hv => ?_) (fun hn => ?_) fun v8 H4 h8 => ?_⟩
      · have hv' := hv
        rw [hT1] at hv'
        obtain ⟨x8, hm, seen⟩ := seen_some (x := .link c p q) lr (fun y py ne => by
          obtain ⟨r, rfl⟩ := isTo_iff.mp py
          exact clash_to fun e => ne (by rw [e])) nc hv'
        obtain ⟨⟨t8, rfl, e8⟩, l8⟩ := mem7 v x8 hm
        refine ⟨e73, kvs1, t8, x8, rfl, sm3 _ _ e8, l8, sm3, eD3, by omega, hF1, fun c' p' => ?_, seen⟩
        rw [hT1, next_some hz fun e => ?_]
        obtain ⟨r, e⟩ := isTo_iff.mp e
        cases e
        rw [hv']
        rfl
      · have hn' := hn
        rw [hT1] at hn'
        have neD : t7 ≠ D := fun e => by
          rw [e, eD3] at e73
          exact nomatch e73
        refine ⟨by rw [upd_ne neD]; exact e73, putK kvs1 (kT c q) (.ref t), t, .link c p q, rfl, same_upd sm3 nD _ _ ht, lx, same_upd sm3 nD, upd_same, by have := length_putK kvs1 (kT c q) (.ref t); omega, fun c' p' => ?_, fun c' p' => ?_, seen_none lr hn'⟩
        · rw [valV_put, if_neg kFT, hF1]
        · rw [valV_put]
          by_cases e : kT c' p' = kT c q
          · rw [if_pos e]
            obtain ⟨rfl, rfl⟩ := kT_inj.mp e
            exact (next_none hz (isTo_iff.mpr ⟨p, rfl⟩) hn').symm
          · rw [if_neg e, hT1, next_some hz fun k => ?_]
            obtain ⟨r, k⟩ := isTo_iff.mp k
            cases k
            exact absurd rfl e
      obtain ⟨e74, kvs2, t8, x8, rfl, e8, l8, sm4, eD4, lk2, hF2, hT2, seen8⟩ := h8
      have ht4 := sm4 _ _ ht
      have shx := fact_shaped (.link c p q) lx
      refine ⟨_, rfl, _, rfl, x7.d, (Fact.link c p q).d, fact_dp e74, fact_dp ht4, fact_shaped _ l7, shx, _, rfl, ite2 (fun n1 => ?_) fun n1 => ⟨_, rfl, _, rfl, x8.d, (Fact.link c p q).d, fact_dp e8, fact_dp ht4, fact_shaped _ l8, shx, _, rfl, ite2 (fun n2 => ?_) fun n2 => ?_⟩⟩
      · have ne : x7 ≠ .link c p q := fun e => by
          rw [(fact_eqv _ _).mpr e] at n1
          exact absurd n1 (by decide)
        exact ⟨_, rfl, q2 i _ _ H4 sm4 hxf hx nc ⟨x7, seen7.other ne⟩⟩
      · have ne : x8 ≠ .link c p q := fun e => by
          rw [(fact_eqv _ _).mpr e] at n2
          exact absurd n2 (by decide)
        exact ⟨_, rfl, q2 i _ _ H4 sm4 hxf hx nc ⟨x8, seen8.other ne⟩⟩
      · have yes : ∀ y : Fact, ¬ (!PyData.eqv y.d (Fact.link c p q).d) = true → y = .link c p q := fun y h => (fact_eqv _ _).mp (by
          cases e : PyData.eqv y.d (Fact.link c p q).d with
          | true => rfl
          | false => rw [e] at h; exact absurd rfl h)
        have s7 := seen7.same (yes _ n1)
        have s8 := seen8.same (yes _ n2)
        refine ⟨kvs2, _, _, _, _, _, _, _, rfl, sm4, eD4, by omega, hF2, hT2, ?_⟩
        rw [tk]
        refine noClash_snoc nc fun y hy => no_clash (fun c' p' q' r' k1 k2 => ?_) fun c' p' q' r' k1 k2 => ?_
        · cases k1
          exact s7 y hy (isFrom_iff.mpr ⟨_, k2⟩)
        · cases k1
          exact s8 y hy (isTo_iff.mpr ⟨_, k2⟩)
  · obtain ⟨kvs, y2, y3, y4, y5, y6, y7, y8, rfl, sm, eD, lk, hF, hT, nc⟩ := hP
    rw [lr, List.take_length] at nc
    exact q1 H' sm nc
end
end DQ

set_option Elab.async false
set_option linter.all false
set_option maxRecDepth 100000
set_option maxHeartbeats 400000
namespace DQ
open PySem PySem.Spec PyProof.Rows L2
/-- {item: True for item in items} -/
theorem dc_known {K : PySem.W.Frag} {a : Addr} {ns : List Int} {i : Nat} {vs : List Nat} {σ : L2.St} {H1 : Hp} {D : Addr} {Qd : Hp → Prop} {te : TE} (hs : SqL K H1 a (ns.map V.int)) (few : ns.length ≤ 10000) (nD : H1 D = none)
    (hw : ∀ (x : V), wipe ((wipe σ vs).set i (some x)) vs = wipe σ vs) (ht : ∀ (x : V) H (Q : V → Hp → Prop), Q x H → te ((wipe σ vs).set i (some x)) H Q) (hd : ∀ H, Same H1 H → KnownAt H D ns → Qd H) :
    ∃ W : Nat → Nat → Hp → Prop, (∃ m, W 0 m (upd H1 D (.dK []))) ∧ ∀ k m H, W k m H →
      ((Itl K a).stop k H ∧ Qd H) ∨ ((Itl K a).go k H ∧ ∃ Nx : Hp → Prop, (∀ H', Nx H' → ∃ m', m' < m ∧ W (k + 1) m' H') ∧ ∀ x H', (Itl K a).yld k H x H' → gName i x (wipe σ vs) H' fun σ2 H2 => wipe σ2 vs = wipe σ vs ∧ tYes σ2 H2 fun b H3 =>
        if b = true then te σ2 H3 fun y H4 => tC (.bl true) σ2 H4 fun z H5 => ∃ kvs k, y = kV k ∧ H5 D = some (.dK kvs) ∧ kvs.length < sizeLine ∧ Nx (upd H5 D (.dK (putK kvs k z))) else Nx H3) := by
  refine ⟨fun k m H => m = ns.length - k ∧ k ≤ ns.length ∧ Same H1 H ∧ ∃ kvs, H D = some (.dK kvs) ∧ kvs.length ≤ k ∧ ∀ j : Int, (valV kvs (.inl j)).isSome = decide (j ∈ ns.take k), ⟨ns.length, by simp, Nat.zero_le _, same_new nD, [], upd_same, Nat.le_refl _, fun j => by simp [valV]⟩, ?_⟩
  rintro k m H ⟨rfl, hk, sm, kvs, eD, lk, hv⟩
  have q := L2.Same.seq sm hs
  by_cases hlt : k < ns.length
  · refine .inr ⟨⟨_, _, q, by rw [List.getElem?_eq_getElem (by rw [List.length_map]; exact hlt)]⟩, fun H' => k + 1 ≤ ns.length ∧ Same H1 H' ∧ ∃ kvs, H' D = some (.dK kvs) ∧ kvs.length ≤ k + 1 ∧ ∀ j : Int, (valV kvs (.inl j)).isSome = decide (j ∈ ns.take (k + 1)), fun H' p => ⟨ns.length - (k + 1), by omega, rfl, p⟩, fun x H' y => ?_⟩
    obtain ⟨e, y⟩ := y
    subst e
    obtain ⟨n, hn, rfl⟩ := at_map (y _ q)
    refine ⟨hw _, ?_⟩
    refine ht _ _ _ ⟨kvs, .inl n, rfl, eD, Nat.lt_of_le_of_lt (show kvs.length ≤ 10000 by omega) (by decide), by omega, same_upd sm nD, _, upd_same, by have := length_putK kvs (.inl n) (.bl true); omega, fun j => ?_⟩
    rw [valV_put, take_next hn]
    by_cases e : j = n
    · rw [e, if_pos rfl]
      simp
    · rw [if_neg (fun z => e (by injection z)), hv]
      exact decide_eq_decide.mpr ⟨fun h => List.mem_append_left _ h, fun h => by
        rcases List.mem_append.mp h with h | h
        · exact h
        · exact absurd (List.mem_singleton.mp h) e⟩
  · have e : k = ns.length := by omega
    subst e
    refine .inl ⟨⟨_, q, by rw [List.length_map]; exact Nat.le_refl _⟩, hd H sm ⟨kvs, eD, fun j => ?_⟩⟩
    rw [hv, List.take_length]
def factD : PyData → Option Fact
  | .tuple [.str k, .str m, .int i] => if k = "mark" then some (.mark m i) else none
  | .tuple [.str k, .str c, .int a, .int b] => if k = "link" then some (.link c a b) else none
  | _ => none
def factsD (ds : List PyData) : List Fact := ds.filterMap factD
def noClashB (fs : List Fact) : Bool := fs.all fun x => fs.all fun y => !clashes x y
theorem noClashB_iff {fs : List Fact} : noClashB fs = true ↔ NoClash fs := by
  unfold noClashB NoClash
  simp only [List.all_eq_true, Bool.not_eq_true']
def areFactsD (ms cs : List Str) (ns : List Int) : PyData → Bool
  | .list ds => ds.all (isFactD ms cs ns) && (ascB ds && noClashB (factsD ds))
  | _ => false
theorem eqv_str {d : PyData} {s : Str} (h : PyData.eqv d (.str s) = true) : d = .str s := by
  cases d with
  | str x =>
    have e : (x == s) = true := by simpa only [PyData.eqv] using h
    rw [str_beq.mp e]
  | _ => exact absurd h (by simp [PyData.eqv])
theorem str_eqv {d : PyData} {s : Str} (h : PyData.eqv (.str s) d = true) : d = .str s := by
  cases d with
  | str x =>
    have e : (s == x) = true := by simpa only [PyData.eqv] using h
    rw [str_beq.mp e]
  | _ => exact absurd h (by simp [PyData.eqv])
theorem hasD_str {ms : List Str} {d : PyData} (h : hasD ms d = true) : ∃ m ∈ ms, d = .str m := by
  obtain ⟨z, hz, e⟩ := List.any_eq_true.mp h
  obtain ⟨m, hm, rfl⟩ := List.mem_map.mp hz
  exact ⟨m, hm, str_eqv e⟩
theorem okItem_int {ns : List Int} {d : PyData} (h : okItem ns d = true) : ∃ i ∈ ns, d = .int i := by
  unfold okItem at h
  rw [Bool.and_eq_true] at h
  cases d with
  | int i => exact ⟨i, of_decide_eq_true h.2, rfl⟩
  | _ => exact absurd h.2 (by simp)
theorem isFact_fact {ms cs : List Str} {ns : List Int} {d : PyData} (h : isFactD ms cs ns d = true) : ∃ x : Fact, d = x.d ∧ factD d = some x ∧ (x.word ∈ ms ∨ x.word ∈ cs) ∧ x.of ⟨ms, cs, ns, []⟩ := by
  cases d with
  | tuple ds =>
    match ds, h with
    | [], h => exact nomatch h
    | [_], h => exact nomatch h
    | a :: b :: r, h =>
      have h : (decide (r.length = 1 ∨ r.length = 2) && ((if r.length = 1 then PyData.eqv a (.str "mark") && hasD ms b else PyData.eqv a (.str "link") && hasD cs b) && r.all (okItem ns))) = true := h
      rw [Bool.and_eq_true, Bool.and_eq_true] at h
      obtain ⟨l, h1, h2⟩ := h
      have l := of_decide_eq_true l
      match r, l, h1, h2 with
      | [c], _, h1, h2 =>
        rw [if_pos (show [c].length = 1 from rfl), Bool.and_eq_true] at h1
        obtain ⟨m, hm, rfl⟩ := hasD_str h1.2
        rw [List.all_cons, Bool.and_eq_true] at h2
        obtain ⟨i, hi, rfl⟩ := okItem_int h2.1
        have ea := eqv_str h1.1
        subst ea
        exact ⟨.mark m i, rfl, (if_pos rfl : (if ("mark" : Str) = "mark" then some (Fact.mark m i) else none) = _), .inl hm, hm, hi⟩
      | [c, e], _, h1, h2 =>
        rw [if_neg (by simp), Bool.and_eq_true] at h1
        obtain ⟨m, hm, rfl⟩ := hasD_str h1.2
        rw [List.all_cons, List.all_cons, Bool.and_eq_true, Bool.and_eq_true] at h2
        obtain ⟨i, hi, rfl⟩ := okItem_int h2.1
        obtain ⟨j, hj, rfl⟩ := okItem_int h2.2.1
        have ea := eqv_str h1.1
        subst ea
        exact ⟨.link m i j, rfl, (if_pos rfl : (if ("link" : Str) = "link" then some (Fact.link m i j) else none) = _), .inr hm, hm, hi, hj⟩
      | [], l, _, _ => exact absurd l (by simp)
      | _ :: _ :: _ :: _, l, _, _ => exact absurd l (by simp)
  | _ => exact absurd h (by simp [isFactD])
theorem all_facts {ms cs : List Str} {ns : List Int} : ∀ {ds : List PyData}, ds.all (isFactD ms cs ns) = true → ds = (factsD ds).map Fact.d ∧ ∀ x ∈ factsD ds, (x.word ∈ ms ∨ x.word ∈ cs) ∧ x.of ⟨ms, cs, ns, []⟩
  | [], _ => ⟨rfl, fun x h => by cases h⟩
  | d :: ds, h => by
    rw [List.all_cons, Bool.and_eq_true] at h
    obtain ⟨x, e1, e2, e3, e4⟩ := isFact_fact h.1
    obtain ⟨i1, i2⟩ := all_facts h.2
    unfold factsD at i1 i2 ⊢
    rw [List.filterMap_cons_some e2]
    refine ⟨by rw [List.map_cons, ← i1, ← e1], fun y hy => ?_⟩
    rcases List.mem_cons.mp hy with rfl | hy
    · exact ⟨e3, e4⟩
    · exact i2 y hy
end DQ

set_option Elab.async false
set_option linter.all false
set_option maxRecDepth 100000
namespace DQ
open PySem PySem.Spec PyProof.Rows L2
variable {X : Cx}
/-- what the parts of a block of one walk answer, bundled -/
structure DcParts (X : Cx) (kx vx tg : Expr) (ifs : List Expr) (scope : Scope) (g : TG) (tt : TT) (tk tv : TE) : Prop where
  goes : ∀ s H C cl fp, PG (X.blk s H scope (compEnvC scope cl C X.env) fp) tg g
  tests : ∀ s H C cl fp, PTs (X.blk s H scope (compEnvC scope cl C X.env) fp) ifs tt
  key : ∀ s H C cl fp, PE (X.blk s H scope (compEnvC scope cl C X.env) fp) kx tk
  val : ∀ s H C cl fp, PE (X.blk s H scope (compEnvC scope cl C X.env) fp) vx tv
/-- a dict comprehension that a plain local of the def takes on one line -/
theorem ps_setDc {i : Nat} {y : Str} {py pos spos : Pos} {kx vx tg iter : Expr} {ifs : List Expr} {scope : Scope} {own : List (Str × Nat)} {wi : TI} {g : TG} {tt : TT} {tk tv : TE}
    (calm : X.calm = true) (nd : X.N.Nodup) (at_ : X.N[i]? = some y) (loc : X.env.scope.names.lookup y = some .local)
    (used : swapsWith (.DictComp kx vx [⟨tg, iter, ifs, 0⟩] scope pos) (some (.Name y py)) spos.line X.env = pure true)
    (walk : PI X tg iter wi) (ok : BlkOk X.N X.env.scope scope own) (B : DcParts X kx vx tg ifs scope g tt tk tv)
    (fold : ∀ x, foldedSetIterable iter X.env x = pure x := by intro _; rfl) :
    PS X (.Assign [.Name y py] (.DictComp kx vx [⟨tg, iter, ifs, 0⟩] scope pos) spos) (tAsg (tDc wi g tt tk tv (own.map (·.2))) (gName i)) := by
  constructor
  intro pins s σ H D I ask
  have ask : tDc wi g tt tk tv (own.map (·.2)) σ H (fun x H1 => gName i x σ H1 D.nx) := ask
  rw [exec_Assign_Name_used _ _ _ _ used]
  apply wpAny_bind
  apply wpAny_standAt
  apply wpAny_bind
  have main := dc_core (use := some (assign (.Name y py) X.env)) (Qf := fun _ t => SP X pins D .next t) (pos := pos) (pos' := firstIterPos [⟨tg, iter, ifs, 0⟩] pos)
    calm nd I walk ok B.goes B.tests B.key B.val fold ask (by
      intro L C t m G J post ns fp
      show wpAny _ _ (assign (.Name y py) X.env (.ref L)) _ _ _
      apply wpAny_assign_Name
      refine store_ok2 (v := V.ref L) J nd at_ (.inl loc) rfl ?_ (.inr loc)
      rintro t2 J2 ⟨a, sb, who⟩
      obtain ⟨p0, p1, p2, p3, p4, p5⟩ := fp
      have far : C ≠ a := by
        rcases who with e | e
        · subst e
          exact p1
        · intro e2
          exact p4 y a e e2.symm
      refine ⟨m, ns.sameBut sb far, ?_⟩
      intro h3 sb3
      refine ⟨_, G, ?_, post⟩
      exact J2.turned (t' := t2.toks) (fun b o hb e => (sb3.2 b hb).trans e) p0 p1 p3 p4 p5)
  apply wpAny_bind
  apply thn main
  intro _ t q
  exact wpAny_pure (wpAny_pure q)
theorem dc_used {kx vx : Expr} {gs : List Comprehension} {scope : Scope} {pos py : Pos} {y : Str} {l : Nat} {env : Env} (fn : env.scope.kind = .function) (lo : env.scope.names.lookup y = some .local) (ln : (py.line == pos.line) = true)
    (no : (scope.names.any fun (n, k) => n == y && (k == .local || k == .cell)) = false) : swapsWith (.DictComp kx vx gs scope pos) (some (.Name y py)) l env = pure true := by
  have e1 : env.kindOf y = some .local := lo
  have e2 : env.blockKind = .function := by
    unfold Env.blockKind
    rw [fn]
    rfl
  unfold swapsWith
  simp only [e2, e1, no, Expr.pos, ln]
  rfl
end DQ

set_option Elab.async false
set_option linter.all false
set_option maxRecDepth 100000
set_option maxHeartbeats 1000000
namespace DQ
open PySem PySem.Spec PyProof.Rows
open L2 (Hp V VK XK R2 OpR SqL SqT Inv RelV Vals HOk Cx EP CallR)
/-! ### repr of data, empty dicts among it -/
mutual
theorem dp_shown {X : Cx} {pins : List (Addr × Obj)} {σ : L2.St} {H : Hp} {s : Shared} (I : Inv X pins σ H s) : ∀ (d : PyData) (v : V) (u : Value), Dp X.K H v d → RelV v u → d.showable = true → d.shown.length ≤ sizeLine →
    ∃ bs, ReadAtMost s.heap d.depth bs ∧ ReprK X.prog X.w bs s.heap d.depth u d.shown
  | .none, v, u, h, r, sh, sz => (Dp.reads I .none v u h r).elim fun as rd => ReprK.of_reads rd sh (fun z => by simp [PyData.hasDict] at z) sz
  | .bool b, v, u, h, r, sh, sz => (Dp.reads I (.bool b) v u h r).elim fun as rd => ReprK.of_reads rd sh (fun z => by simp [PyData.hasDict] at z) sz
  | .int i, v, u, h, r, sh, sz => (Dp.reads I (.int i) v u h r).elim fun as rd => ReprK.of_reads rd sh (fun z => by simp [PyData.hasDict] at z) sz
  | .str x, v, u, h, r, sh, sz => (Dp.reads I (.str x) v u h r).elim fun as rd => ReprK.of_reads rd sh (fun z => by simp [PyData.hasDict] at z) sz
  | .list ds, v, u, h, r, sh, sz => by
    obtain ⟨as, rd⟩ := Dp.reads I (.list ds) v u h r
    cases h with
    | lst hs ha =>
      obtain rfl : u = Value.ref _ := r
      obtain ⟨its, rv, ⟨o, n, ho, hc, _, hd⟩, _⟩ := I.list hs
      have sz' : (listText (PyData.shownAll ds)).length ≤ sizeLine := by simpa only [PyData.shown] using sz
      obtain ⟨bs, hb, hk⟩ := dpAll_shown I ds _ its ha rv (by simpa only [PyData.showable] using sh) fun t ht => Nat.le_trans (listText_mem_le ht) sz'
      have hna := not_mem_of_deeper rd (by simp only [PyData.depth]; omega) hb
      refine ⟨_ :: bs, ReadAtMost.cons rd (by simp only [PyData.depth]; omega) hb, ?_⟩
      simp only [PyData.depth, PyData.shown]
      cases its with
      | nil =>
        cases rv
        cases ha
        simp only [PyData.shownAll, listText_nil]
        exact ReprK.listEmpty ho hc hd
      | cons y ys => exact ReprK.list ho hc hd hna (by simpa using hk.length_eq) fun i z e => hk.item i z (by simpa using e)
  | .tuple ds, v, u, h, r, sh, sz => by
    obtain ⟨as, rd⟩ := Dp.reads I (.tuple ds) v u h r
    cases h with
    | tup hs ha =>
      obtain rfl : u = Value.ref _ := r
      obtain ⟨its, rv, ⟨o, ho, hc, n, hd⟩, _⟩ := I.tuple hs
      have sz' : (tupleText (PyData.shownAll ds)).length ≤ sizeLine := by simpa only [PyData.shown] using sz
      obtain ⟨bs, hb, hk⟩ := dpAll_shown I ds _ its ha rv (by simpa only [PyData.showable] using sh) fun t ht => Nat.le_trans (tupleText_mem_le ht) sz'
      have hna := not_mem_of_deeper rd (by simp only [PyData.depth]; omega) hb
      refine ⟨_ :: bs, ReadAtMost.cons rd (by simp only [PyData.depth]; omega) hb, ?_⟩
      simp only [PyData.depth, PyData.shown]
      exact ReprK.tuple ho hc hd hna (by simpa using hk)
  | .dict kvs, v, u, h, r, sh, sz => by
    obtain ⟨as, rd⟩ := Dp.reads I (.dict kvs) v u h r
    cases h with
    | dct hs =>
      obtain rfl : u = Value.ref _ := r
      obtain ⟨_, hsys, vs, kv, o, es, ep, ho, ex, hd, _, ps, _⟩ := L2.dk_of I.hok hs
      have e0 : vs = [] := by
        cases kv
        rfl
      subst e0
      have e1 : es.toList = [] := List.length_eq_zero_iff.mp (by simpa using PySem.Pairs.length ps)
      refine ⟨[_], ReadAtMost.cons (bs := []) rd (n := 0) (Nat.zero_le _) (fun b hb => nomatch hb), ?_⟩
      simp only [PyData.depth, PyData.depthKv, PyData.shown, PyData.shownKv]
      exact ReprK.dict ho ex.1 hd hsys (by simp) (by rw [e1]; exact .nil)
theorem dpAll_shown {X : Cx} {pins : List (Addr × Obj)} {σ : L2.St} {H : Hp} {s : Shared} (I : Inv X pins σ H s) : ∀ (ds : List PyData) (vs : List V) (us : List Value), DpAll X.K H vs ds → Vals vs us → PyData.showableAll ds = true → (∀ t ∈ PyData.shownAll ds, t.length ≤ sizeLine) →
    ∃ bs, ReadAtMost s.heap (PyData.depthAll ds) bs ∧ ReprAllK X.prog X.w bs s.heap (PyData.depthAll ds) us (PyData.shownAll ds)
  | [], _, _, h, r, _, _ => by
    cases h
    cases r
    exact ⟨[], (fun _ h => nomatch h), by simp only [PyData.shownAll]; exact .nil⟩
  | d :: ds, _, _, h, r, sh, sz => by
    cases h with
    | cons h1 h2 =>
      cases r with
      | cons r1 r2 =>
        have sh' : d.showable = true ∧ PyData.showableAll ds = true := by simpa [PyData.showableAll] using sh
        obtain ⟨b1, hb1, k1⟩ := dp_shown I d _ _ h1 r1 sh'.1 (sz _ (by simp only [PyData.shownAll]; exact List.mem_cons_self ..))
        obtain ⟨b2, hb2, k2⟩ := dpAll_shown I ds _ _ h2 r2 sh'.2 fun t ht => sz t (by simp only [PyData.shownAll]; exact List.mem_cons_of_mem _ ht)
        have m1 : PyData.depth d ≤ PyData.depthAll (d :: ds) := by simp only [PyData.depthAll]; exact Nat.le_max_left _ _
        have m2 : PyData.depthAll ds ≤ PyData.depthAll (d :: ds) := by simp only [PyData.depthAll]; exact Nat.le_max_right _ _
        refine ⟨b1 ++ b2, (hb1.mono m1).append (hb2.mono m2), ?_⟩
        simp only [PyData.shownAll]
        exact .cons ((k1.more fun b hb => List.mem_append_left _ hb).level_le m1) (k2.more_le (fun b hb => List.mem_append_right _ hb) m2)
end
/-- what repr wants of data, dicts among it -/
structure ShowsZ (d : PyData) : Prop where
  sh : d.showable = true
  dep : d.depth ≤ 64
  sz : d.shown.length ≤ sizeLine
/-- repr of a tuple of data; the guards around are known to be none -/
def rReprT (K : PySem.W.Frag) : List V → Hp → VK → Prop := fun xs H Q => ∃ (a : Addr) (ds : List PyData), xs = [.ref a] ∧ Dp K H (.ref a) (.tuple ds) ∧ ShowsZ (.tuple ds) ∧ Q (.str (PyData.tuple ds).shown) H
theorem call_reprT {X : Cx} (hu : X.A.units + 65 < cLine) (hg : X.A.guards = some []) : CallR X (.builtin "repr") (rReprT X.K) := by
  intro pins s σ H xs us Q I r h
  obtain ⟨a, ds, rfl, hd, ⟨sh, dep, sz⟩, q⟩ := h
  obtain ⟨u, rfl, ru⟩ := L2.vals1 r
  obtain ⟨as, rd⟩ := Dp.reads I (.tuple ds) _ _ hd ru
  cases hd with
  | tup hs ha =>
    obtain rfl : u = Value.ref a := ru
    obtain ⟨its, rv, ⟨o, ho, hc, n, hd⟩, _⟩ := I.tuple hs
    have sz' : (tupleText (PyData.shownAll ds)).length ≤ sizeLine := by simpa only [PyData.shown] using sz
    obtain ⟨bs, hb, hk⟩ := dpAll_shown I ds _ its ha rv (by simpa only [PyData.showable] using sh) fun t ht => Nat.le_trans (tupleText_mem_le ht) sz'
    have hna := not_mem_of_deeper rd (by simp only [PyData.depth]; omega) hb
    have dp : PyData.depthAll ds + 1 ≤ 64 := by simpa only [PyData.depth] using dep
    refine call_repr_slot (by omega) ⟨o, ho, hc⟩ F.slot_tuple_repr (call_tuple_reprK ho hc hd hna (by simpa using hk) hg (fun b _ => Clear.nil b) (by show X.A.units + 1 + _ < _; omega) (fun _ _ e => e) (fun h' u tk k => ⟨_, _, rfl, ?_⟩) sz')
    simp only [PyData.shown] at q
    exact ⟨.str _, H, I.kept fun b o e => k b o e, ⟨u, rfl⟩, q⟩
end DQ

set_option Elab.async false
set_option linter.all false
set_option maxRecDepth 100000
set_option maxHeartbeats 2000000
namespace DQ
open PySem PySem.Spec PyProof.Rows L2
/-- repr of data that stands as an object; the guards around are known to be none -/
def rReprD (K : PySem.W.Frag) : List V → Hp → VK → Prop := fun xs H Q => ∃ (a : Addr) (d : PyData), xs = [.ref a] ∧ Dp K H (.ref a) d ∧ d.showable = true ∧ d.hasDict = false ∧ d.depth ≤ 64 ∧ d.shown.length ≤ sizeLine ∧ Q (.str d.shown) H
theorem call_reprD {X : Cx} (hu : X.A.units + 65 < cLine) (hg : X.A.guards = some []) : CallR X (.builtin "repr") (rReprD X.K) := by
  intro pins s σ H xs us Q I r h
  obtain ⟨a, d, rfl, hd, sh, nd, dep, sz, q⟩ := h
  obtain ⟨u, rfl, ru⟩ := vals1 r
  obtain rfl : u = Value.ref a := ru
  obtain ⟨as, rd⟩ := Dp.reads I d _ _ hd rfl
  refine repr_of_reads' rd sh (fun h => by rw [nd] at h; exact nomatch h) hg (by omega) (fun _ _ e => e) (fun h' u tk k => ?_) sz
  exact ⟨.str d.shown, H, I.kept fun b o e => k b o e, ⟨u, rfl⟩, q⟩
end DQ
namespace DQ
open PySem PySem.Spec PyProof.Rows L2
/-! ### defs that are called where no guard is around (repr wants that) -/
structure FnG (P : Program) (w : World) (K : PySem.W.Frag) (mg : Str → Option Value) (base : Heap) (CX : CXT) (k : Nat) (f : Addr) (fd : FuncData) (ps : List Str) (sp : Sp) : Prop where
  len : ∀ vs H Q E, sp vs H Q E → vs.length = ps.length
  run : ∀ (A : Around) (outer : List Env) (s : Shared) (H : Hp) (args : Args) (us : List Value) (vs : List V) (Q : VK) (E : XK), Room k A → A.guards = some [] → Env0 P w K mg base A outer s H → BindsTo s fd args (ps.zip us) → Vals vs us → sp vs H Q E →
    codeAny (model P w) A (.call (.ref f) args) (CR CX outer P w H s Q E) s
theorem FnG.of {P : Program} {w : World} {K : PySem.W.Frag} {mg : Str → Option Value} {base : Heap} {CX : CXT} {k : Nat} {f : Addr} {fd : FuncData} {ps : List Str} {sp : Sp} (F : FnOk P w K mg base CX k f fd ps sp) : FnG P w K mg base CX k f fd ps sp :=
  ⟨F.len, fun A outer s H args us vs Q E hr _ => F.run A outer s H args us vs Q E hr⟩
theorem fnG_of {CX : CXT} {P : Program} {w : World} {K : PySem.W.Frag} {mg : Str → Option Value} {base : Heap} {k : Nat} {f : Addr} {name qual : Str} {params : Arguments} {body : List Stmt} {scope : Scope} {dV kV doc pm cdv ct oc : Value} {an od : Option Addr}
    {osl : Array (Option Value)} {N ps : List Str} {sp : Sp} (lk : K.lookup f = some ⟨oc, od, .func (PySem.W.fnOf name qual params body scope dV kV doc pm an cdv ct), osl⟩) (hcd : PySem.W.codeIn K cdv qual = true) (S : FnScope N ps scope)
    (len : ∀ vs H Q E, sp vs H Q E → vs.length = ps.length)
    (hbody : ∀ (A : Around) (outer : List Env) (s : Shared) (H : Hp) (vs : List V) (Q : VK) (E : XK), Room k (A.deeper (envOfC qual scope s.heap.objs.size f cdv)) → A.guards = some [] → sp vs H Q E →
      ∃ t, PSs (cxOf CX P w K mg base N qual scope f cdv A outer s H E) body t ∧ t { nx := fun _ H' => Q .non H', rt := Q } (L2.start N vs) H) :
    FnG P w K mg base CX (k + 1) f (PySem.W.fnOf name qual params body scope dV kV doc pm an cdv ct) ps sp := by
  refine ⟨len, fun A outer s H args us vs Q E hr hg e0 hb r hsp => ?_⟩
  have hl := len _ _ _ _ hsp
  have KX : K.In s.heap := e0.mod.kin.keeps fun b o e => (e0.bs b o e).1
  have lim : s.heap.NoLimit := e0.mod.nolimit.keeps fun b o e => (e0.bs b o e).1
  have hkind : ∀ y ∈ ps.zip us, scope.names.lookup y.1 = some .local ∨ (scope.names.lookup y.1 = some .cell ∧ ((cellsFrom (s.heap.objs.size + 1) scope.names []).lookup y.1).isSome = true) := fun ⟨n, v⟩ hy => by
    rcases S.par n (List.of_mem_zip hy).1 with q | q
    · exact .inl q
    · exact .inr ⟨q, PySem.W.cellsFrom_some _ _ _ (.inl q)⟩
  refine codeAny_call_function hr.depth (KX _ _ lk) rfl S.co S.gen rfl (PySem.W.codeRec_of KX hcd) (hb _ _ _ _ ?_)
  refine wpAny_newFunctionEnv_cells S.kind hkind fun env he s1 x => ?_
  subst he
  refine ⟨lim.keeps x.toInCall.keep, codeAny_func ?_⟩
  obtain ⟨t, ht, hq⟩ := hbody A outer s H vs Q E (hr.deeper _) hg hsp
  have I : Inv (cxOf CX P w K mg base N qual scope f cdv A outer s H E) [] (L2.start N vs) H s1 := inv_start S hr.hd e0 hl r x
  refine wpAny_mono (ht.run [] s1 (L2.start N vs) H _ I hq) (fun fl s' hs => ?_) fun e s' hs => hs
  have fin : ∀ {σ' : L2.St} {H' : Hp} {v : V} {u : Value}, Inv (cxOf CX P w K mg base N qual scope f cdv A outer s H E) [] σ' H' s' → RelV v u → Q v H' → CE outer P w H s Q u s' :=
    fun {σ' H' v u} J rv q => ⟨v, H', J.os, J.bare, J.base, J.hok, rv, q⟩
  cases fl with
  | ret u =>
    obtain ⟨v, σ', H', J, rv, q⟩ := hs
    exact fin J rv q
  | next =>
    obtain ⟨σ', H', J, q⟩ := hs
    exact fin (v := V.non) (u := Value.none) J rfl q
  | brk =>
    obtain ⟨_, _, _, q⟩ := hs
    exact False.elim q
  | cont =>
    obtain ⟨_, _, _, q⟩ := hs
    exact False.elim q
section
variable {P : Program} {w : World} {K : PySem.W.Frag} {mg : Str → Option Value} {base : Heap}
theorem fun_okG {CX : CXT} {x qual : Str} {st : Stmt} {f : Addr} {fd : FuncData} {N ps : List Str} {k : Nat} {sp : Sp} (F : Fun K x qual st f fd) (S : FnScope N ps (defScope st)) (len : ∀ vs H Q E, sp vs H Q E → vs.length = ps.length)
    (hbody : ∀ (cdv : Value) (A : Around) (outer : List Env) (s : Shared) (H : Hp) (vs : List V) (Q : VK) (E : XK), Room k (A.deeper (envOfC qual (defScope st) s.heap.objs.size f cdv)) → A.guards = some [] → sp vs H Q E →
      ∃ t, PSs (cxOf CX P w K mg base N qual (defScope st) f cdv A outer s H E) (defBody st) t ∧ t { nx := fun _ H' => Q .non H', rt := Q } (L2.start N vs) H) : FnG P w K mg base CX (k + 1) f fd ps sp := by
  obtain ⟨oc, od, kV, doc, pm, an, cdv, ct, osl, rfl, lk, hcd⟩ := F.ex
  exact fnG_of lk hcd S len fun A outer s H vs Q E hr hg hsp => hbody cdv A outer s H vs Q E hr hg hsp
end
section
variable {X : Cx} {CX : CXT} {k : Nat} {f : Addr} {fd : FuncData} {ps : List Str} {sp : Sp} {dvs : List V} {ds : List Value} {E : XK} {x : Str} {p pos : Pos} {e : Expr} {es : List Expr} {t : TA}
theorem run_fnG {pins : List (Addr × Obj)} {σ : L2.St} {H : Hp} {s : Shared} {Q : VK} {us : List Value} {vs : List V} (F : FnG X.prog X.w X.K X.mg X.base CX k f fd ps sp) (hr : Room k X.A) (hG : X.A.guards = some []) (hb : Binds X.K fd ps ds) (hd : Vals dvs ds) (hx : Passes CX X E)
    (I : Inv X pins σ H s) (r : Vals vs us) (h : sp (vs ++ dvs) H Q E) : wpAny (model X.prog X.w) X.A (call (.ref f) us) (EP X pins σ Q) X.xe s := by
  have r2 : Vals (vs ++ dvs) (us ++ ds) := r.append hd
  have hl : (us ++ ds).length = ps.length := by rw [← r2.length]; exact F.len _ _ _ _ h
  refine wpAny_call (codeAny_mono (F.run X.A X.stack s H ⟨us, []⟩ (us ++ ds) (vs ++ dvs) Q E hr hG I.env0 (hb s us I.kIn hl) r2 h) fun r s' hq => ?_)
  cases r with
  | error e => exact hx pins σ H s e s' I hq
  | ok fl =>
    cases fl with
    | ret u => exact I.after hq
    | next => exact False.elim hq
    | brk => exact False.elim hq
    | cont => exact False.elim hq
theorem pe_callGd (F : FnG X.prog X.w X.K X.mg X.base CX k f fd ps sp) (hr : Room k X.A) (hG : X.A.guards = some []) (hg : Gl X x) (hm : X.mg x = some (.ref f)) (hk : PySem.W.keepIn X.K (.ref f) = true) (hb : Binds X.K fd ps ds) (hd : Vals dvs ds) (hx : Passes CX X E)
    (ha : PA X (e :: es) t) (hdb : (x == ("__debug__" : Str)) = false := by decide) (he : starEach (e :: es) X.env = (false, eval e X.env) :: starEach es X.env := by rfl) (hpl : (backTo pos (starEach es X.env)).any (·.1) = false := by rfl) :
    PE X (.Call (.Name x p) (e :: es) [] pos) (tCall sp dvs E t) := by
  refine ⟨fun pins s σ H Q I h => ?_⟩
  refine wpAny_Call_Name_kw (ld_glob I hg hm ?_ hdb)
  refine PySem.W.callWith_K (h₀ := X.base) I.ok.mod.kin hk (thn (ha.run pos pins s σ H _ I h) fun us s1 ⟨vs, H1, I1, r, q⟩ => ⟨I1.kIn, ?_⟩) he hpl
  exact run_fnG F hr hG hb hd hx I1 r q
end
end DQ
namespace DQ
open PySem PySem.Spec PyProof.Rows L2
/-- what repr wants of data -/
structure Shows (d : PyData) : Prop where
  sh : d.showable = true
  nod : d.hasDict = false
  dep : d.depth ≤ 64
  sz : d.shown.length ≤ sizeLine
/-- repr of any data; the guards around are known to be none -/
def rReprV (K : PySem.W.Frag) : List V → Hp → VK → Prop := fun xs H Q => ∃ (v : V) (d : PyData), xs = [v] ∧ Dp K H v d ∧ Shows d ∧ Q (.str d.shown) H
theorem call_reprV {X : Cx} (hu : X.A.units + 65 < cLine) (hg : X.A.guards = some []) : CallR X (.builtin "repr") (rReprV X.K) := by
  intro pins s σ H xs us Q I r h
  obtain ⟨v, d, rfl, hd, ⟨sh, nod, dep, sz⟩, q⟩ := h
  cases hd with
  | non =>
    obtain ⟨u, rfl, ru⟩ := vals1 r
    obtain rfl : u = Value.none := ru
    exact PySem.P.repr_of_none ⟨.str _, H, I.tok _, ⟨_, rfl⟩, q⟩
  | bl b =>
    obtain ⟨u, rfl, ru⟩ := vals1 r
    obtain rfl : u = Value.bool b := ru
    exact PySem.P.repr_of_bool ⟨.str _, H, I.tok _, ⟨_, rfl⟩, q⟩
  | int i =>
    obtain ⟨u, rfl, t, rfl⟩ := vals1 r
    exact PySem.P.repr_of_int (by simpa [PyData.showable] using sh) ⟨.str _, H, I.tok _, ⟨_, rfl⟩, q⟩
  | str x =>
    obtain ⟨u, rfl, t, rfl⟩ := vals1 r
    exact PySem.P.repr_of_str ⟨.str _, H, I.tok _, ⟨_, rfl⟩, q⟩ sz
  | lst hs ha => exact call_reprD hu hg pins s σ H _ us Q I r ⟨_, _, rfl, .lst hs ha, sh, nod, dep, sz, q⟩
  | tup hs ha => exact call_reprD hu hg pins s σ H _ us Q I r ⟨_, _, rfl, .tup hs ha, sh, nod, dep, sz, q⟩
  | dct h => simp [PyData.hasDict] at nod
end DQ

set_option Elab.async false
set_option linter.all false
set_option maxRecDepth 100000
set_option maxHeartbeats 400000
namespace DQ
open PySem PySem.Spec PyProof.Rows L2
/-! ### what a store is, of any data: words, items, facts -/
def listD : PyData → List PyData
  | .list ds => ds
  | _ => []
def intD : PyData → Option Int
  | .int i => some i
  | _ => none
def intsD (ds : List PyData) : List Int := ds.filterMap intD
theorem ints_all {K : PySem.W.Frag} {H : Hp} : ∀ {vs : List V} {ds : List PyData}, DpAll K H vs ds → ds.all numD = true → vs = (intsD ds).map V.int ∧ (intsD ds).length = ds.length ∧ ds = (intsD ds).map PyData.int
  | _, _, .nil, _ => ⟨rfl, rfl, rfl⟩
  | v :: vs, d :: ds, .cons a t, h => by
    rw [List.all_cons, Bool.and_eq_true] at h
    obtain ⟨h1, h2⟩ := h
    obtain ⟨e, l, m⟩ := ints_all t h2
    cases a with
    | int x =>
      unfold intsD at e l m ⊢
      rw [List.filterMap_cons_some (f := intD) (a := .int x) (b := x) rfl, List.map_cons, List.map_cons, ← e, ← m, List.length_cons, l]
      exact ⟨rfl, rfl, rfl⟩
    | _ => cases h1
theorem texts_data : ∀ {ds : List PyData}, ds.all wordD = true → ds = (texts ds).map PyData.str
  | [], _ => rfl
  | d :: ds, h => by
    rw [List.all_cons, Bool.and_eq_true] at h
    have m := texts_data h.2
    cases d with
    | str x =>
      unfold texts at m ⊢
      rw [List.filterMap_cons_some (f := textD) (a := .str x) (b := x) rfl, List.map_cons, ← m]
    | _ => exact nomatch h.1
/-- a store, as data -/
def isStoreD (s m c i f : PyData) : Bool :=
  PyData.eqv s (.str "store") && ((wordsD 4 m && columnsD (texts (listD m)) c) && ((numsD i && decide ((listD i).length ≤ 2000) && ascB (listD i)) && areFactsD (texts (listD m)) (texts (listD c)) (intsD (listD i)) f))
theorem wordsD_list {m : Nat} {d : PyData} (h : wordsD m d = true) : ∃ ds, d = .list ds ∧ ds.all wordD = true := by
  cases d with
  | list ds =>
    have h : (decide (ds.length ≤ m) && (ds.all wordD && decide (differ (texts ds) ds.length = ds.length))) = true := h
    rw [Bool.and_eq_true, Bool.and_eq_true] at h
    exact ⟨ds, rfl, h.2.1⟩
  | _ => exact absurd h (by simp [wordsD])
/-- the items of a list can be laid -/
def Lays (d : PyData) : Prop := ∀ ds, d = .list ds → ∀ e ∈ ds, e.canLay0 = true
theorem shaped_texts {ds : List PyData} (h : ds.all wordD = true) (l : ∀ e ∈ ds, e.canLay0 = true) : SeqAt.shaped (.list ((texts ds).map PyData.str)) = true := by
  rw [← texts_data h]
  have c : ∀ {xs : List PyData}, xs.all wordD = true → (∀ e ∈ xs, e.canLay0 = true) → PyData.canLayAll0 xs = true ∧ PyData.depthAll xs = 0 := fun {xs} => by
    induction xs with
    | nil => exact fun _ _ => ⟨rfl, rfl⟩
    | cons x xs ih =>
      intro h l
      rw [List.all_cons, Bool.and_eq_true] at h
      obtain ⟨a, b⟩ := ih h.2 fun e he => l e (List.mem_cons_of_mem _ he)
      have lx := l x (List.mem_cons_self ..)
      cases x with
      | str z =>
        refine ⟨?_, ?_⟩
        · simp only [PyData.canLayAll0]
          rw [lx, a]
          rfl
        · simp only [PyData.depthAll, PyData.depth]
          rw [b]
          rfl
      | _ => exact nomatch h.1
  obtain ⟨a, b⟩ := c h l
  have dep : (PyData.list ds).depth ≤ 64 := by
    simp only [PyData.depth]
    rw [b]
    decide
  show (PyData.canLay0 (.list ds) && decide (PyData.depth (.list ds) ≤ 64)) = true
  rw [decide_eq_true dep, Bool.and_true]
  simp only [PyData.canLay0]
  exact a
theorem ne_int {n k : Nat} (h : n ≠ k) : decide (V.int (n : Int) = V.int (k : Int)) = false := decide_eq_false fun e => h (by injection e with e; omega)
end DQ

set_option Elab.async false
set_option linter.all false
set_option maxRecDepth 100000
set_option maxHeartbeats 400000
namespace DQ
open PySem PySem.Spec PyProof.Rows L2
/-! ### a drawn store is judged a store -/
theorem texts_strs : ∀ ms : List Str, texts (ms.map PyData.str) = ms
  | [] => rfl
  | x :: r => by
    have ih := texts_strs r
    unfold texts at ih ⊢
    rw [List.map_cons, List.filterMap_cons_some (f := textD) (a := .str x) (b := x) rfl, ih]
theorem factD_d (x : Fact) : factD x.d = some x := by
  cases x with
  | mark m i => exact (if_pos rfl : (if ("mark" : Str) = "mark" then some (Fact.mark m i) else none) = _)
  | link c a b => exact (if_pos rfl : (if ("link" : Str) = "link" then some (Fact.link c a b) else none) = _)
theorem factsD_facts : ∀ fs : List Fact, factsD (fs.map Fact.d) = fs
  | [] => rfl
  | x :: r => by
    have ih := factsD_facts r
    unfold factsD at ih ⊢
    rw [List.map_cons, List.filterMap_cons_some (factD_d x), ih]
theorem pairwise_next {α : Type} {R : α → α → Prop} : ∀ {l : List α}, l.Pairwise R → ∀ p ∈ l.zip (l.drop 1), R p.1 p.2
  | [], _, p, h => by cases h
  | [_], _, p, h => by cases h
  | x :: y :: r, h, p, hp => by
    obtain ⟨h1, h2⟩ := List.pairwise_cons.mp h
    have hp : p ∈ (x, y) :: (y :: r).zip ((y :: r).drop 1) := hp
    rcases List.mem_cons.mp hp with rfl | hp
    · exact h1 y (List.mem_cons_self ..)
    · exact pairwise_next h2 p hp
theorem ascB_of {ds : List PyData} (h : ds.Pairwise fun x y => PySem.W.dataLt x y = true) : ascB ds = true :=
  List.all_eq_true.mpr fun p hp => pairwise_next h p hp
theorem asc_ints {ns : List Int} (h : ns.Pairwise (· < ·)) : ascB (ns.map PyData.int) = true :=
  ascB_of (List.pairwise_map.mpr (h.imp fun {a b} h => by rw [PySem.W.dataLt_int]; exact decide_eq_true h))
theorem asc_facts {fs : List Fact} (h : fs.Pairwise fun x y => PySem.W.dataLt x.d y.d = true) : ascB (fs.map Fact.d) = true := ascB_of (List.pairwise_map.mpr h)
theorem nums_of {ns : List Int} (h : ∀ x ∈ ns, 0 ≤ x ∧ x ≤ 1000000000) : numsD (.list (ns.map PyData.int)) = true := by
  refine List.all_eq_true.mpr fun d hd => ?_
  obtain ⟨x, hx, rfl⟩ := List.mem_map.mp hd
  show (decide (0 ≤ x) && decide (x ≤ 1000000000)) = true
  rw [decide_eq_true (h x hx).1, decide_eq_true (h x hx).2]
  rfl
theorem hasD_of {ms : List Str} {m : Str} (h : m ∈ ms) : hasD ms (.str m) = true :=
  List.any_eq_true.mpr ⟨.str m, List.mem_map.mpr ⟨m, h, rfl⟩, by simp only [PyData.eqv]; exact str_beq.mpr rfl⟩
theorem okItem_of {ns : List Int} (hn : ∀ x ∈ ns, 0 ≤ x ∧ x ≤ 1000000000) {i : Int} (h : i ∈ ns) : okItem ns (.int i) = true := by
  show ((decide (0 ≤ i) && decide (i ≤ 1000000000)) && decide (i ∈ ns)) = true
  rw [decide_eq_true (hn i h).1, decide_eq_true (hn i h).2, decide_eq_true h]
  rfl
theorem isFact_of {S : Store} (hn : ∀ x ∈ S.items, 0 ≤ x ∧ x ≤ 1000000000) {x : Fact} (h : x.of S) : isFactD S.marks S.columns S.items x.d = true := by
  cases x with
  | mark m i =>
    obtain ⟨h1, h2⟩ := h
    show (decide (1 = 1 ∨ 1 = 2) && ((if 1 = 1 then PyData.eqv (.str "mark") (.str "mark") && hasD S.marks (.str m) else _) && (okItem S.items (.int i) && true))) = true
    rw [if_pos rfl, hasD_of h1, okItem_of hn h2]
    decide +kernel
  | link c a b =>
    obtain ⟨h1, h2, h3⟩ := h
    show (decide (2 = 1 ∨ 2 = 2) && ((if 2 = 1 then _ else PyData.eqv (.str "link") (.str "link") && hasD S.columns (.str c)) && (okItem S.items (.int a) && (okItem S.items (.int b) && true)))) = true
    rw [if_neg (by decide), hasD_of h1, okItem_of hn h2, okItem_of hn h3]
    decide +kernel
theorem one_place {l : List (Int × Int)} (h : (l.map (·.1)).Nodup) {a b c : Int} (h1 : (a, b) ∈ l) (h2 : (a, c) ∈ l) : b = c := by
  induction l with
  | nil => cases h1
  | cons p r ih =>
    obtain ⟨n1, n2⟩ := List.nodup_cons.mp h
    rcases List.mem_cons.mp h1 with e1 | h1 <;> rcases List.mem_cons.mp h2 with e2 | h2
    · rw [← e1] at e2
      cases e2
      rfl
    · exact absurd (List.mem_map.mpr ⟨_, h2, by rw [← e1]⟩) n1
    · exact absurd (List.mem_map.mpr ⟨_, h1, by rw [← e2]⟩) n1
    · exact ih n2 h1 h2
theorem one_place2 {l : List (Int × Int)} (h : (l.map (·.2)).Nodup) {a b c : Int} (h1 : (b, a) ∈ l) (h2 : (c, a) ∈ l) : b = c := by
  induction l with
  | nil => cases h1
  | cons p r ih =>
    obtain ⟨n1, n2⟩ := List.nodup_cons.mp h
    rcases List.mem_cons.mp h1 with e1 | h1 <;> rcases List.mem_cons.mp h2 with e2 | h2
    · rw [← e1] at e2
      cases e2
      rfl
    · exact absurd (List.mem_map.mpr ⟨_, h2, by rw [← e1]⟩) n1
    · exact absurd (List.mem_map.mpr ⟨_, h1, by rw [← e2]⟩) n1
    · exact ih n2 h1 h2
theorem mem_links {c : Str} {fs : List Fact} {a b : Int} (h : Fact.link c a b ∈ fs) : (a, b) ∈ linksOf c fs := by
  unfold linksOf
  exact List.mem_filterMap.mpr ⟨_, h, if_pos rfl⟩
theorem noClash_of {ns : List Int} {fs : List Fact} (h : ∀ c, OneToOne ns (linksOf c fs)) : NoClash fs := fun x hx y hy => no_clash (fun c p q r e1 e2 => by
    subst e1 e2
    rw [one_place (h c).1 (mem_links hx) (mem_links hy)]) fun c p q r e1 e2 => by
    subst e1 e2
    rw [one_place2 (h c).2.1 (mem_links hx) (mem_links hy)]
theorem areFacts_of {m : Nat} {S : Store} (D : Drawn m S) : areFactsD S.marks S.columns S.items (.list (S.facts.map Fact.d)) = true := by
  show ((S.facts.map Fact.d).all (isFactD S.marks S.columns S.items) && (ascB (S.facts.map Fact.d) && noClashB (factsD (S.facts.map Fact.d)))) = true
  rw [asc_facts D.rise, factsD_facts, noClashB_iff.mpr (noClash_of D.links), Bool.and_true, Bool.and_true]
  refine List.all_eq_true.mpr fun d hd => ?_
  obtain ⟨x, hx, rfl⟩ := List.mem_map.mp hd
  exact isFact_of D.items.2 (D.facts x hx)
theorem marks_ok {k : Nat} (h : k ≤ 3) : wordsD 4 (.list (((["red", "blue", "gold"] : List Str).take k).map PyData.str)) = true := by
  have c : k = 0 ∨ k = 1 ∨ k = 2 ∨ k = 3 := by omega
  rcases c with rfl | rfl | rfl | rfl <;> decide +kernel
theorem columns_ok {k j : Nat} (h : k ≤ 3) (h1 : 1 ≤ j) (h2 : j ≤ 2) : columnsD ((["red", "blue", "gold"] : List Str).take k) (.list (((["next", "below"] : List Str).take j).map PyData.str)) = true := by
  have c : k = 0 ∨ k = 1 ∨ k = 2 ∨ k = 3 := by omega
  have d : j = 1 ∨ j = 2 := by omega
  rcases c with rfl | rfl | rfl | rfl <;> rcases d with rfl | rfl <;> decide +kernel
theorem dp_intsL {K : PySem.W.Frag} {H : Hp} : ∀ ns : List Int, DpAll K H (ns.map V.int) (ns.map PyData.int)
  | [] => .nil
  | x :: r => .cons (.int x) (dp_intsL r)
theorem dp_facts {K : PySem.W.Frag} {H : Hp} : ∀ {rs : List V} {fs : List Fact}, Tups H rs (fs.map Fact.v) → DpAll K H rs (fs.map Fact.d)
  | [], [], _ => .nil
  | [], _ :: _, t => by cases t
  | _ :: _, [], t => by cases t
  | r :: rs, f :: fs, .cons ⟨a, e, h⟩ t => .cons (by rw [e]; exact fact_dp h) (dp_facts t)
theorem fact_d_inj {x y : Fact} (h : x.d = y.d) : x = y := by
  have := factD_d x
  rw [h, factD_d y] at this
  cases this
  rfl
theorem facts_inj {fs gs : List Fact} (h : fs.map Fact.d = gs.map Fact.d) : fs = gs := by
  have a := factsD_facts fs
  rw [h, factsD_facts] at a
  exact a.symm
theorem fact_parts (x : Fact) (l : PyData.canLay0 (.str x.word) = true) : Parts x.d := fun ds e z hz0 => by
  have hz := List.mem_of_mem_take hz0
  have s1 : SeqAt.shaped (.str "mark") = true := by decide +kernel
  have s2 : SeqAt.shaped (.str "link") = true := by decide +kernel
  have sw : SeqAt.shaped (.str x.word) = true := by
    show (PyData.canLay0 (.str x.word) && decide (PyData.depth (.str x.word) ≤ 64)) = true
    rw [l]
    rfl
  have si : ∀ i : Int, SeqAt.shaped (.int i) = true := fun _ => rfl
  cases x with
  | mark m i =>
    injection e with e
    subst e
    simp only [List.mem_cons, List.not_mem_nil, or_false] at hz
    rcases hz with rfl | rfl | rfl
    · exact s1
    · exact sw
    · exact si _
  | link c a b =>
    injection e with e
    subst e
    simp only [List.mem_cons, List.not_mem_nil, or_false] at hz
    rcases hz with rfl | rfl | rfl | rfl
    · exact s2
    · exact sw
    · exact si _
    · exact si _
/-- a drawn word -/
def drawnWords : List Str := ["red", "blue", "gold", "next", "below"]
theorem lay_words : ∀ x ∈ drawnWords, PyData.canLay0 (.str x) = true ∧ x.length ≤ 1000 := by decide +kernel
theorem Drawn.word {m : Nat} {S : Store} (D : Drawn m S) {x : Str} (h : x ∈ S.marks ∨ x ∈ S.columns) : x ∈ drawnWords := by
  obtain ⟨k, _, ek⟩ := D.marks
  obtain ⟨j, _, _, ej⟩ := D.columns
  rcases h with h | h
  · rw [ek] at h
    have h := List.mem_of_mem_take h
    simp only [List.mem_cons, List.not_mem_nil, or_false] at h
    rcases h with rfl | rfl | rfl <;> decide
  · rw [ej] at h
    have h := List.mem_of_mem_take h
    simp only [List.mem_cons, List.not_mem_nil, or_false] at h
    rcases h with rfl | rfl <;> decide
theorem Drawn.factWord {m : Nat} {S : Store} (D : Drawn m S) {x : Fact} (h : x ∈ S.facts) : x.word ∈ drawnWords := by
  have z := D.facts x h
  cases x with
  | mark m i => exact D.word (.inl z.1)
  | link c a b => exact D.word (.inr z.1)
end DQ

set_option Elab.async false
set_option linter.all false
set_option maxRecDepth 100000
set_option maxHeartbeats 2000000
namespace DQ
open PySem PySem.Spec PyProof.Rows L2
/-! ### small data: what repr, ==, sorted want of it, part by part -/
/-- data that nests at most k deep, of weight at most n, its ints short -/
structure Sm (k n : Nat) (d : PyData) : Prop where
  lay : d.canLay0 = true
  dep : d.depth ≤ k
  wt : d.weight ≤ n
  sh : d.showable = true
  short : d.intsShort 13 = true
theorem Sm.mono {k n k' n' : Nat} {d : PyData} (h : Sm k n d) (hk : k ≤ k') (hn : n ≤ n') : Sm k' n' d := ⟨h.lay, Nat.le_trans h.dep hk, Nat.le_trans h.wt hn, h.sh, h.short⟩
theorem Sm.shows {k n : Nat} {d : PyData} (h : Sm k n d) (hk : k ≤ 64) (hn : n ≤ 1048576) : Shows d := by
  have hl : PyData.layable0 d = true := by
    show (PyData.canLay0 d && decide (PyData.depth d ≤ 64) && decide (PyData.weight d ≤ 2 ^ 20)) = true
    rw [h.lay, decide_eq_true (Nat.le_trans h.dep hk), decide_eq_true (show PyData.weight d ≤ 2 ^ 20 from Nat.le_trans h.wt (by simpa using hn))]
    rfl
  exact ⟨h.sh, PyData.hasDict_of_canLay d h.lay, Nat.le_trans h.dep hk, PyData.shown_fits_of_layable0 (B := 13) (by decide) (by decide) hl h.short⟩
theorem Sm.shaped {k n : Nat} {d : PyData} (h : Sm k n d) (hk : k ≤ 64) : SeqAt.shaped d = true := by
  show (PyData.canLay0 d && decide (PyData.depth d ≤ 64)) = true
  rw [h.lay, decide_eq_true (Nat.le_trans h.dep hk)]
  rfl
theorem sm_none : Sm 0 0 .none := ⟨rfl, Nat.le_refl _, Nat.le_refl _, rfl, rfl⟩
theorem sm_bool (b : Bool) : Sm 0 0 (.bool b) := ⟨rfl, Nat.le_refl _, Nat.le_refl _, rfl, rfl⟩
theorem sm_int {i : Int} (h1 : -100000000000 ≤ i) (h2 : i ≤ 100000000000) : Sm 0 64 (.int i) := by
  have h : i.natAbs < 10 ^ 12 := by omega
  have hl : i.natAbs.log2 < 64 := by
    by_cases z : i.natAbs = 0
    · rw [z]; decide
    · exact (Nat.log2_lt z).mpr (Nat.lt_trans h (by decide))
  refine ⟨rfl, Nat.le_refl _, ?_, ?_, ?_⟩
  · simp only [PyData.weight]
    split <;> omega
  · simp only [PyData.showable]
    exact decide_eq_true (by omega)
  · simp only [PyData.intsShort]
    exact decide_eq_true (PyData.shown_int_le h)
theorem sm_str {x : Str} {n : Nat} (h : PyData.canLay0 (.str x) = true) (hn : x.cps.size ≤ n) : Sm 0 n (.str x) := ⟨h, Nat.le_refl _, by simpa only [PyData.weight] using hn, rfl, rfl⟩
structure SmAll (k n : Nat) (ds : List PyData) : Prop where
  lay : PyData.canLayAll0 ds = true
  dep : PyData.depthAll ds ≤ k
  wt : PyData.weightAll ds ≤ ds.length * (n + 1)
  sh : PyData.showableAll ds = true
  short : PyData.intsShortAll 13 ds = true
theorem smAll {k n : Nat} : ∀ {ds : List PyData}, (∀ d ∈ ds, Sm k n d) → SmAll k n ds
  | [], _ => ⟨rfl, Nat.zero_le _, Nat.zero_le _, rfl, rfl⟩
  | d :: ds, h => by
    have a := h d (List.mem_cons_self ..)
    have b := smAll (ds := ds) fun e he => h e (List.mem_cons_of_mem _ he)
    refine ⟨?_, ?_, ?_, ?_, ?_⟩
    · simp only [PyData.canLayAll0]
      rw [a.lay, b.lay]
      rfl
    · simp only [PyData.depthAll]
      exact Nat.max_le.mpr ⟨a.dep, b.dep⟩
    · simp only [PyData.weightAll, List.length_cons]
      have := a.wt
      have := b.wt
      rw [Nat.add_mul]
      omega
    · simp only [PyData.showableAll]
      rw [a.sh, b.sh]
      rfl
    · simp only [PyData.intsShortAll]
      rw [a.short, b.short]
      rfl
theorem SmAll.list {k n m : Nat} {ds : List PyData} (h : SmAll k n ds) (hm : ds.length ≤ m) : Sm (k + 1) (m * (n + 1)) (.list ds) := by
  refine ⟨by simpa only [PyData.canLay0] using h.lay, ?_, ?_, by simpa only [PyData.showable] using h.sh, by simpa only [PyData.intsShort] using h.short⟩
  · simp only [PyData.depth]
    have := h.dep
    omega
  · simp only [PyData.weight]
    exact Nat.le_trans h.wt (Nat.mul_le_mul_right _ hm)
theorem SmAll.tuple {k n m : Nat} {ds : List PyData} (h : SmAll k n ds) (hm : ds.length ≤ m) : Sm (k + 1) (m * (n + 1)) (.tuple ds) := by
  refine ⟨by simpa only [PyData.canLay0] using h.lay, ?_, ?_, by simpa only [PyData.showable] using h.sh, by simpa only [PyData.intsShort] using h.short⟩
  · simp only [PyData.depth]
    have := h.dep
    omega
  · simp only [PyData.weight]
    exact Nat.le_trans h.wt (Nat.mul_le_mul_right _ hm)
theorem Sm.eqv {k n : Nat} {d : PyData} (h : Sm k n d) (hk : k ≤ 64) : PyData.eqv d d = true := SeqAt.eqv_refl d (SeqAt.canLay_of_shaped (h.shaped hk))
theorem sm_word {x : Str} (h : x ∈ drawnWords) : Sm 0 10 (.str x) := by
  simp only [drawnWords, List.mem_cons, List.not_mem_nil, or_false] at h
  rcases h with rfl | rfl | rfl | rfl | rfl <;> exact sm_str (by decide +kernel) (by decide +kernel)
theorem sm_item {i : Int} (h : 0 ≤ i ∧ i ≤ 1000000000) : Sm 0 64 (.int i) := sm_int (by omega) (by omega)
theorem sm_fact {m : Nat} {S : Store} (D : Drawn m S) {x : Fact} (h : x ∈ S.facts) : Sm 1 260 x.d := by
  have wd := sm_word (D.factWord h)
  have z := D.facts x h
  have it : ∀ i, i ∈ S.items → Sm 0 64 (.int i) := fun i hi => sm_item (D.items.2 i hi)
  have s1 : Sm 0 64 (.str "mark") := sm_str (by decide +kernel) (by decide +kernel)
  have s2 : Sm 0 64 (.str "link") := sm_str (by decide +kernel) (by decide +kernel)
  cases x with
  | mark c i =>
    refine (SmAll.tuple (k := 0) (n := 64) (m := 4) (ds := [.str "mark", .str c, .int i]) (smAll fun d hd => ?_) (show 3 ≤ 4 by decide)).mono (by decide) (by decide)
    simp only [List.mem_cons, List.not_mem_nil, or_false] at hd
    rcases hd with rfl | rfl | rfl
    · exact s1
    · exact wd.mono (by decide) (by decide)
    · exact it _ z.2
  | link c a b =>
    refine (SmAll.tuple (k := 0) (n := 64) (m := 4) (ds := [.str "link", .str c, .int a, .int b]) (smAll fun d hd => ?_) (show 4 ≤ 4 by decide)).mono (by decide) (by decide)
    simp only [List.mem_cons, List.not_mem_nil, or_false] at hd
    rcases hd with rfl | rfl | rfl | rfl
    · exact s2
    · exact wd.mono (by decide) (by decide)
    · exact it _ z.2.1
    · exact it _ z.2.2
theorem sm_facts {m : Nat} {S : Store} (D : Drawn m S) {fs : List Fact} (h : ∀ x ∈ fs, x ∈ S.facts) (hl : fs.length ≤ 1000) : Sm 2 261000 (.list (fs.map Fact.d)) := by
  refine (SmAll.list (k := 1) (n := 260) (m := 1000) (smAll fun d hd => ?_) (by rw [List.length_map]; exact hl)).mono (by decide) (by decide)
  obtain ⟨x, hx, rfl⟩ := List.mem_map.mp hd
  exact sm_fact D (h x hx)
theorem sm_words {ms : List Str} (h : ∀ x ∈ ms, x ∈ drawnWords) (hl : ms.length ≤ 10) : Sm 1 110 (.list (ms.map PyData.str)) := by
  refine (SmAll.list (k := 0) (n := 10) (m := 10) (smAll fun d hd => ?_) (by rw [List.length_map]; exact hl)).mono (by decide) (by decide)
  obtain ⟨x, hx, rfl⟩ := List.mem_map.mp hd
  exact sm_word (h x hx)
theorem sm_items {ns : List Int} (h : ∀ x ∈ ns, 0 ≤ x ∧ x ≤ 1000000000) (hl : ns.length ≤ 1000) : Sm 1 65000 (.list (ns.map PyData.int)) := by
  refine (SmAll.list (k := 0) (n := 64) (m := 1000) (smAll fun d hd => ?_) (by rw [List.length_map]; exact hl)).mono (by decide) (by decide)
  obtain ⟨x, hx, rfl⟩ := List.mem_map.mp hd
  exact sm_item (h x hx)
/-- the data of a store -/
def Store.d (S : Store) : PyData := .tuple [.str "store", .list (S.marks.map PyData.str), .list (S.columns.map PyData.str), .list (S.items.map PyData.int), .list (S.facts.map Fact.d)]
theorem store_dp {K : PySem.W.Frag} {H : Hp} {v : V} {S : Store} (A : StoAt H v S) : Dp K H v S.d := by
  obtain ⟨t, ma, ca, ia, fa, rs, rfl, ht, hma, hca, hia, hfa, tp⟩ := A
  exact .tup (.inl (.inl ht)) (.cons (.str _) (.cons (.lst (SqL.of hma) (dp_texts S.marks)) (.cons (.lst (SqL.of hca) (dp_texts S.columns)) (.cons (.lst (SqL.of hia) (dp_intsL S.items)) (.cons (.lst (SqL.of hfa) (dp_facts tp)) .nil)))))
theorem Drawn.fewMarks {m : Nat} {S : Store} (D : Drawn m S) : S.marks.length ≤ 10 := by
  obtain ⟨k, hk, ek⟩ := D.marks
  rw [ek, List.length_take]
  omega
theorem Drawn.fewColumns {m : Nat} {S : Store} (D : Drawn m S) : S.columns.length ≤ 10 := by
  obtain ⟨k, h1, hk, ek⟩ := D.columns
  rw [ek, List.length_take]
  omega
theorem sm_store {m : Nat} {S : Store} (D : Drawn m S) (hm : m ≤ 1000) : Sm 3 400000 S.d := by
  have a := sm_words (ms := S.marks) (fun x h => D.word (.inl h)) D.fewMarks
  have b := sm_words (ms := S.columns) (fun x h => D.word (.inr h)) D.fewColumns
  have c := sm_items D.items.2 (Nat.le_trans D.few hm)
  have d := sm_facts D (fs := S.facts) (fun x h => h) D.short
  have e : Sm 0 10 (.str "store") := sm_str (by decide +kernel) (by decide +kernel)
  refine ⟨?_, ?_, ?_, ?_, ?_⟩
  · simp only [Store.d, PyData.canLay0, PyData.canLayAll0]
    have := e.lay; have := a.lay; have := b.lay; have := c.lay; have := d.lay
    simp_all [PyData.canLay0]
  · simp only [Store.d, PyData.depth, PyData.depthAll]
    have := e.dep; have := a.dep; have := b.dep; have := c.dep; have := d.dep
    simp only [PyData.depth] at *
    omega
  · simp only [Store.d, PyData.weight, PyData.weightAll]
    have := e.wt; have := a.wt; have := b.wt; have := c.wt; have := d.wt
    simp only [PyData.weight] at *
    omega
  · simp only [Store.d, PyData.showable, PyData.showableAll]
    have := e.sh; have := a.sh; have := b.sh; have := c.sh; have := d.sh
    simp_all [PyData.showable]
  · simp only [Store.d, PyData.intsShort, PyData.intsShortAll]
    have := e.short; have := a.short; have := b.short; have := c.short; have := d.short
    simp_all [PyData.intsShort]
end DQ
namespace DQ
open PySem PySem.Spec PyProof.Rows L2
/-- a row of small data -/
structure SmL (k n : Nat) (ds : List PyData) : Prop where
  lay : PyData.canLayAll0 ds = true
  dep : PyData.depthAll ds ≤ k
  wt : PyData.weightAll ds ≤ n
  sh : PyData.showableAll ds = true
  short : PyData.intsShortAll 13 ds = true
theorem sml_nil {k : Nat} : SmL k 0 [] := ⟨rfl, Nat.zero_le _, Nat.le_refl _, rfl, rfl⟩
theorem Sm.cons {k j a b : Nat} {d : PyData} {ds : List PyData} (x : Sm j a d) (r : SmL k b ds) (hj : j ≤ k) : SmL k (a + 1 + b) (d :: ds) := by
  refine ⟨?_, ?_, ?_, ?_, ?_⟩
  · simp only [PyData.canLayAll0]
    rw [x.lay, r.lay]
    rfl
  · simp only [PyData.depthAll]
    exact Nat.max_le.mpr ⟨Nat.le_trans x.dep hj, r.dep⟩
  · simp only [PyData.weightAll]
    have := x.wt
    have := r.wt
    omega
  · simp only [PyData.showableAll]
    rw [x.sh, r.sh]
    rfl
  · simp only [PyData.intsShortAll]
    rw [x.short, r.short]
    rfl
theorem SmL.list {k n : Nat} {ds : List PyData} (h : SmL k n ds) : Sm (k + 1) n (.list ds) := by
  refine ⟨by simpa only [PyData.canLay0] using h.lay, ?_, by simpa only [PyData.weight] using h.wt, by simpa only [PyData.showable] using h.sh, by simpa only [PyData.intsShort] using h.short⟩
  simp only [PyData.depth]
  have := h.dep
  omega
theorem SmL.tuple {k n : Nat} {ds : List PyData} (h : SmL k n ds) : Sm (k + 1) n (.tuple ds) := by
  refine ⟨by simpa only [PyData.canLay0] using h.lay, ?_, by simpa only [PyData.weight] using h.wt, by simpa only [PyData.showable] using h.sh, by simpa only [PyData.intsShort] using h.short⟩
  simp only [PyData.depth]
  have := h.dep
  omega
end DQ

set_option Elab.async false
set_option linter.all false
set_option maxRecDepth 100000
set_option maxHeartbeats 4000000
/-! an own error class called with keywords: its __new__ takes them and forgets them, its __init__ binds them -/
namespace PySem.ErrKw
open PySem PySem.W PySem.Calls PyProof.Rows PySem.HandSPX
section
variable {prog : Program} {w : World} {A : Around} {E : Value → Shared → Prop} {R : Result → Shared → Prop} {hp : Heap} {gs : Array GenState} {dr : Drawn} {tk : Nat} {os : OsState}
variable {cn cq : Str} {C Nd : Addr} {bases tail tailB : List Value} {hd : Bool} {sl : List Str} {subs : List Value} {abs : Bool} {col : Option Bool} {dict : Option Addr} {z0 z1 z2 z3 z5 : Option Value} {B nw ini : String} {us : List Value} {kw : List (Str × Value)}
theorem kw_check {M : Model} (F : ExcBaseFacts B nw ini tailB) (same : ∀ Y : String, tail.contains (.type Y) = tailB.contains (.type Y)) {Q : Unit → Shared → Prop}
    (hC : hp.get? C = some (excClassObj cn cq C Nd bases tail hd sl subs abs col dict z0 z1 z2 z3 z5 nw)) (hQ : Q () ⟨hp, gs, dr, tk, os⟩) : wpAny M A (checkBuiltinCall nw ⟨.ref C :: us, kw⟩) Q E ⟨hp, gs, dr, tk, os⟩ := by
  have hasB : (Value.ref C :: tail).contains (.type B) = true := by
    rw [List.contains_cons, same, F.hasB, Bool.or_true]
  have star := F.noStar
  simp only [checkBuiltinCall, F.newKind, F.newSplit, F.newRow]
  repeat (first
    | refine wpAny_loadPart_at hC ?_
    | (refine wpAny_isSubtype_exc hC ?_; rw [hasB])
    | refine wpAny_staticBase_exc hC ?_
    | refine wpAny_madeBy_exc hC ?_
    | simp only [bne_self_eq_false, Bool.false_eq_true, if_false]
    | wp_step)
  exact hQ
theorem kw_new (F : ExcBaseFacts B nw ini tailB) (same : ∀ Y : String, tail.contains (.type Y) = tailB.contains (.type Y))
    (hC : hp.get? C = some (excClassObj cn cq C Nd bases tail hd sl subs abs col dict z0 z1 z2 z3 z5 nw))
    (hR : R (.ok (.ret (.ref (hp.objs.size + 1)))) ⟨(hp.push (W.kdv_tup us)).push (excO C hp.objs.size), gs, dr, tk, os⟩) (small : us.length ≤ sizeLine) :
    codeAny (model prog w) A (.builtin nw ⟨.ref C :: us, kw⟩) R ⟨hp, gs, dr, tk, os⟩ := by
  have ends := F.ends
  have has : ∀ {Y : String} {b : Bool}, tailB.contains (.type Y) = b → (Value.ref C :: tail).contains (.type Y) = b := fun {Y b} e => by
    rw [List.contains_cons, same, e]
    rfl
  have i1 := has F.hasB
  have i2 := has F.noAttr
  have i3 := has F.noName
  refine codeAny_builtinAt F.entry ?_
  unfold Builtin.«BaseException.__new__»
  refine wpAt_bind ?_
  refine (show wpAt _ _ _ (stack >>= _) _ _ _ from wpAt_bind (wpAt_stack fun p below => wpAt_of_wpAny ?_))
  wp_walk
  refine wpAt_of_wpAny ?_
  rw [F.owner]
  repeat (first
    | with_reducible refine wpAny_madeHere_exc F.canon hC ?_
    | with_reducible refine wpAny_loadPart_at hC ?_
    | (with_reducible refine wpAny_isSubtype_exc hC ?_; first | rw [i1] | rw [i2] | rw [i3])
    | wp_step)
  show R _ _
  rw [Heap.size_push]
  exact hR
theorem kw_type (F : ExcBaseFacts B nw ini tailB) (same : ∀ Y : String, tail.contains (.type Y) = tailB.contains (.type Y)) {fI : Addr} {Q : Fin → Shared → Prop}
    (hC : hp.get? C = some (excClassObj cn cq C Nd bases tail hd sl subs abs col dict z0 z1 z2 z3 z5 nw)) (look : Looks (model prog w) hp (typeLookup (.ref C) "__init__") (some (.ref fI))) (bind : ∀ self, Looks (model prog w) hp (bindSpecial (.ref fI) self) (.ref fI, [self])) (small : us.length ≤ sizeLine)
    (hQ : codeAny (model prog w) A (.call (.ref fI) ⟨.ref (hp.objs.size + 1) :: us, kw⟩) (fun r s' => match r with | .ok (.ret v) => v = .none ∧ Q (.done (.ret (.ref (hp.objs.size + 1)))) s' | .ok _ => False | .error e => E e s') ⟨(hp.push (W.kdv_tup us)).push (excO C hp.objs.size), gs, dr, tk, os⟩) :
    wpAny (model prog w) A (Builtin.«type.__call__» ⟨.ref C :: us, kw⟩) Q E ⟨hp, gs, dr, tk, os⟩ := by
  repeat (first
    | with_reducible refine wpAny_loadPart_at hC ?_
    | with_reducible refine wpAny_madeBy_exc hC ?_
    | wp_step)
  refine codeAny_call_builtin_code (Code.quiet_builtin _ F.quiet) (kw_check F same hC (kw_new F same hC ?_ small))
  show wpAny _ _ _ _ _ _
  have grown : ∀ b o, hp.get? b = some o → ((hp.push (W.kdv_tup us)).push (excO C hp.objs.size)).get? b = some o := fun b o z => Heap.get?_push_of_some _ (Heap.get?_push_of_some _ z)
  have made : ((hp.push (W.kdv_tup us)).push (excO C hp.objs.size)).get? (hp.objs.size + 1) = some (excO C hp.objs.size) := by heap_get
  have itself : (Value.ref C :: tail).contains (.ref C) = true := by simp
  have hC2 := grown _ _ hC
  unfold isInstance
  repeat (first
    | with_reducible refine wpAny_loadPart_at made ?_
    | (with_reducible refine wpAny_isSubtype_exc hC2 ?_; rw [itself])
    | wp_step)
  refine (show wpAny _ _ (typeLookup (.ref C) _) _ _ _ from (look.keeps grown).at ?_)
  refine wpAny_holding (wpAny_bind (((bind (.ref (hp.objs.size + 1))).keeps grown).at ?_))
  refine wpAny_bind (wpAny_call (codeAny_mono hQ fun r s' z => ?_))
  match r, z with
  | .error _, z => exact z
  | .ok (.ret _), ⟨rfl, z⟩ =>
    first
      | exact wpAny_pure (wpAny_pure z)
      | (wp_walk; exact z)
  | .ok .next, z => exact z.elim
  | .ok .brk, z => exact z.elim
  | .ok .cont, z => exact z.elim
theorem kw_check_call {M : Model} {Q : Unit → Shared → Prop} (hC : hp.get? C = some (excClassObj cn cq C Nd bases tail hd sl subs abs col dict z0 z1 z2 z3 z5 nw)) (hQ : Q () ⟨hp, gs, dr, tk, os⟩) :
    wpAny M A (checkBuiltinCall "type.__call__" ⟨.ref C :: us, kw⟩) Q E ⟨hp, gs, dr, tk, os⟩ := by
  have sub := tc_sub
  have isTy : (⟨hp, gs, dr, tk, os⟩ : Shared).TypeIs (.ref C) "type" := ⟨_, hC, rfl⟩
  simp only [checkBuiltinCall, tc_kind, tc_split]
  repeat (any_goals (first
    | assumption
    | with_reducible refine wpAny_loadPart_at hC ?_
    | with_reducible refine wpAny_onRaise ?_
    | with_reducible refine wpAny_map ?_
    | wp_step))
theorem kw_call (F : ExcBaseFacts B nw ini tailB) (same : ∀ Y : String, tail.contains (.type Y) = tailB.contains (.type Y)) {fI : Addr}
    (hC : hp.get? C = some (excClassObj cn cq C Nd bases tail hd sl subs abs col dict z0 z1 z2 z3 z5 nw)) (look : Looks (model prog w) hp (typeLookup (.ref C) "__init__") (some (.ref fI))) (bind : ∀ self, Looks (model prog w) hp (bindSpecial (.ref fI) self) (.ref fI, [self])) (small : us.length ≤ sizeLine)
    (hR : codeAny (model prog w) (A.under (.builtin "type.__call__" ⟨.ref C :: us, kw⟩)) (.call (.ref fI) ⟨.ref (hp.objs.size + 1) :: us, kw⟩) (InitBack (hp.objs.size + 1) R) ⟨(hp.push (W.kdv_tup us)).push (excO C hp.objs.size), gs, dr, tk, os⟩) :
    codeAny (model prog w) A (.call (.ref C) ⟨us, kw⟩) R ⟨hp, gs, dr, tk, os⟩ := by
  have l1 := tc_lookup
  have l2 := tc_bind (.ref C)
  have isTy : (⟨hp, gs, dr, tk, os⟩ : Shared).TypeIs (.ref C) "type" := ⟨_, hC, rfl⟩
  refine codeAny_of_tree (show wpAny _ _ (callAny (.ref C) _) _ _ _ from ?_)
  repeat (any_goals (first
    | assumption
    | with_reducible refine wpAny_loadPart_at hC ?_
    | wp_step))
  refine ⟨rfl, codeAny_call_builtin_at (Code.quiet_builtin _ (by decide +kernel)) entry_typeCall (kw_check_call hC (kw_type F same hC look bind small (codeAny_mono hR fun r s' z => ?_)))⟩
  match r, z with
  | .error _, z => exact z
  | .ok (.ret _), z => exact z
  | .ok .next, z => exact z
  | .ok .brk, z => exact z
  | .ok .cont, z => exact z
end
end PySem.ErrKw

set_option Elab.async false
set_option linter.all false
set_option maxRecDepth 100000
set_option maxHeartbeats 4000000
namespace DQ
open PySem PySem.Spec PyProof.Rows L2
/-! ### errors of own classes as values -/
/-- C(e, ..): a new error at a, C's own __init__ keeping sp -/
def tErr (C : Addr) (sp : Sp) (dvs : List V) (ta : TA) : TE := fun σ H Q => ta σ H fun vs H1 => vs.length ≤ 1000 ∧ ∀ a, H1 a = none → sp (.ref a :: (vs ++ dvs)) (upd H1 a (exo a C none)) (fun v H2 => v = .non ∧ Q (.ref a) H2) (fun _ _ _ => False)
section
variable {X : Cx} {x : Str} {C fI : Addr} {k : Nat} {fd : FuncData} {ps : List Str} {sp : Sp} {ds : List Value} {dvs : List V} {CX : CXT} {e : Expr} {es : List Expr} {ta : TA} {p pos : Pos}
theorem run_err {pins : List (Addr × Obj)} {σ : L2.St} {H1 : Hp} {s1 : Shared} {Q : VK} {us : List Value} {vs : List V} (T : OexC X.K C) (iC : PySem.W.findIn X.K (.ref C) "__init__" = some (some (.ref fI))) (tI : PySem.W.typeIn X.K (.ref fI) = some (.type "function"))
    (F1 : FnOk X.prog X.w X.K X.mg X.base CX k fI fd ps sp) (hr : Room (k + 1) X.A) (hb : Binds X.K fd ps ds) (hd : Vals dvs ds) (hx : Passes CX X (fun _ _ _ => False)) (I1 : Inv X pins σ H1 s1) (r1 : Vals vs us) (hz : vs.length ≤ 1000)
    (q1 : ∀ a, H1 a = none → sp (.ref a :: (vs ++ dvs)) (upd H1 a (exo a C none)) (fun v H2 => v = .non ∧ Q (.ref a) H2) (fun _ _ _ => False)) :
    wpAny (model X.prog X.w) X.A (call (.ref C) us) (EP X pins σ Q) X.xe s1 := by
  obtain ⟨nm, q, N, bs, bm, sn, sub, ab, col, dd, k0, k1, k2, k3, k5, hC, hbm⟩ := T.cls
  obtain ⟨hp, g, dr, tk, os⟩ := s1
  have room : hp.objs.size ≤ hp.objs.size + 1 := Nat.le_succ _
  have hq := q1 (hp.objs.size + 1) (I1.hok.fresh room)
  let h2 := (hp.push (PySem.W.kdv_tup us)).push (PySem.HandSPX.excO C hp.objs.size)
  have at2 : h2.get? (hp.objs.size + 1) = some (PySem.HandSPX.excO C hp.objs.size) := by heap_get
  have I2 : Inv X pins σ (upd H1 (hp.objs.size + 1) (exo (hp.objs.size + 1) C none)) ⟨h2, g, dr, tk, os⟩ :=
    Inv.laid (t' := tk) (a := hp.objs.size + 1) (o := exo (hp.objs.size + 1) C none) (h' := h2) I1 (fun b o z => Heap.get?_push_of_some _ (Heap.get?_push_of_some _ z)) room (exo_ok at2)
  have r2 : Vals (V.ref (hp.objs.size + 1) :: (vs ++ dvs)) (Value.ref (hp.objs.size + 1) :: (us ++ ds)) := .cons rfl (r1.append hd)
  have many : (Value.ref (hp.objs.size + 1) :: us ++ ds).length = ps.length := (r2.length.symm.trans (F1.len _ _ _ _ hq))
  have small : us.length ≤ sizeLine := by
    rw [← Paired.length r1, sizeLine_eq]
    omega
  have run := F1.run _ X.stack _ _ ⟨Value.ref (hp.objs.size + 1) :: us, []⟩ _ _ _ (fun _ _ _ => False) (hr.make C us []) (I2.env0.make C us []) (hb _ (Value.ref (hp.objs.size + 1) :: us) I2.kIn many) r2 hq
  refine wpAny_call (PySem.HandSPX.call_own F.excBase_ValueError (fun Y => PySem.HandSPX.refsVE_contains Y bm hbm) (I1.kIn _ _ hC) (PySem.W.looks_findIn I1.kIn iC) (fun self => PySem.W.bind_fn I1.kIn self tI) small (codeAny_mono run fun r s' z => ?_))
  match r, z with
  | .error er, z => exact hx pins σ _ _ er s' I2 z
  | .ok (.ret u), z =>
    obtain ⟨v, H', I3, rv, ev, q3⟩ := I2.after z
    subst ev
    exact ⟨rv, V.ref (hp.objs.size + 1), H', I3, rfl, q3⟩
  | .ok .next, z => exact False.elim z
  | .ok .brk, z => exact False.elim z
  | .ok .cont, z => exact False.elim z
theorem pe_err (T : OexC X.K C) (iC : PySem.W.findIn X.K (.ref C) "__init__" = some (some (.ref fI))) (tI : PySem.W.typeIn X.K (.ref fI) = some (.type "function"))
    (F1 : FnOk X.prog X.w X.K X.mg X.base CX k fI fd ps sp) (hr : Room (k + 1) X.A) (hb : Binds X.K fd ps ds) (hd : Vals dvs ds) (hx : Passes CX X (fun _ _ _ => False)) (hg : Gl X x) (hm : X.mg x = some (.ref C)) (ha : PA X (e :: es) ta)
    (hdb : (x == ("__debug__" : Str)) = false := by decide) (he : starEach (e :: es) X.env = (false, eval e X.env) :: starEach es X.env := by rfl) (hpl : (backTo pos (starEach es X.env)).any (·.1) = false := by rfl) :
    PE X (.Call (.Name x p) (e :: es) [] pos) (tErr C sp dvs ta) := ⟨fun pins s σ H Q I h => by
  refine wpAny_Call_Name_kw (ld_glob I hg hm (PySem.W.callWith_K (h₀ := X.base) I.ok.mod.kin T.kC (thn (ha.run pos pins s σ H _ I h) fun us s1 h1 => ?_) he hpl) hdb)
  obtain ⟨vs, H1, I1, r1, hz, q1⟩ := h1
  exact ⟨I1.kIn, run_err T iC tI F1 hr hb hd hx I1 r1 hz q1⟩⟩
theorem pe_err0 (T : OexC X.K C) (iC : PySem.W.findIn X.K (.ref C) "__init__" = some (some (.ref fI))) (tI : PySem.W.typeIn X.K (.ref fI) = some (.type "function"))
    (F1 : FnOk X.prog X.w X.K X.mg X.base CX k fI fd ps sp) (hr : Room (k + 1) X.A) (hb : Binds X.K fd ps ds) (hd : Vals dvs ds) (hx : Passes CX X (fun _ _ _ => False)) (hg : Gl X x) (hm : X.mg x = some (.ref C))
    (hdb : (x == ("__debug__" : Str)) = false := by decide) : PE X (.Call (.Name x p) [] [] pos) (tErr C sp dvs tNil) := ⟨fun pins s σ H Q I h =>
  wpAny_Call_Name_kw (ld_glob I hg hm (PySem.W.callWith_K0 I.kIn T.kC (run_err (us := []) T iC tI F1 hr hb hd hx I .nil h.1 h.2)) hdb)⟩
/-- e.n of an error that was made -/
def tErrFld (K : PySem.W.Frag) (n : Str) (te : TE) : TE := fun σ H Q => te σ H fun x H1 => ∃ (a C d : Addr) (fs : List (Str × V)) (v : V), x = .ref a ∧ H1 a = some (exo a C (some d)) ∧ H1 d = some (exd d fs) ∧ XfC K C ∧ PySem.W.findIn K (.ref C) n = some none ∧ fs.lookup n = some v ∧ Q v H1
theorem err_inst {P : Program} {w : World} {H : Hp} {h : Heap} {a C : Addr} {d : Option Addr} (ok : HOk P w H h) (ea : H a = some (exo a C d)) (ed : ∀ dx, d = some dx → ∃ fs, H dx = some (exd dx fs)) : ∃ ox od, PySem.W.InstAt h a ox C od := by
  obtain ⟨t1, ho⟩ := exo_at ok ea
  cases d with
  | none => exact ⟨_, none, ho, rfl, rfl, trivial⟩
  | some dx =>
    obtain ⟨fs, e⟩ := ed dx rfl
    obtain ⟨mA, ⟨od, es, ep, hd, hr⟩, _⟩ := exd_at ok e
    exact ⟨_, some od, ho, rfl, rfl, hd⟩
theorem pe_errFld {te : TE} {n : Str} (he : PE X e te) (hb : attributeBase e n X.env (eval e X.env) = eval e X.env := by rfl) : PE X (.Attribute e n pos) (tErrFld X.K n te) := ⟨fun pins s σ H Q I h => by
  refine attr_of hb (thn (he.run pins s σ H _ I h) fun u s1 h1 => ?_)
  obtain ⟨x, H1, I1, rx, a, C, d, fs, v, rfl, ea, ed, T, hno, l, q⟩ := h1
  obtain rfl : u = Value.ref a := rx
  obtain ⟨t1, ho⟩ := exo_at I1.hok ea
  obtain ⟨mA, hns, hr⟩ := exd_at I1.hok ed
  obtain ⟨od, hod, hl⟩ := lookIn_ns hns
  obtain ⟨u, hu, ru⟩ := RelO.some_of (v := v) (o := mA n) (by rw [← l]; exact hr n)
  exact HandSPX.exc_get I1.kIn ⟨ho, rfl, rfl, hod⟩ T.ga T.gg T.exC (PySem.W.findObj_own T.hdC hno rfl (by rw [hl, hu])) (handed_of ru) ⟨v, H1, I1.tok _, ru, q⟩⟩
/-- what isinstance asks of the class of an error -/
structure ErrC (K : PySem.W.Frag) (C : Addr) : Prop where
  cls : (PySem.W.clsIn K C).isSome = true
  ga : PySem.W.findIn K (.ref C) "__getattribute__" = some (some (.builtin "BaseException.__getattribute__"))
  gg : PySem.W.findIn K (.ref C) "__getattr__" = some none
  sub : PySem.W.subIn K (.ref C) (.type "BaseException") = some true
  ca : PySem.W.findIn K (.ref C) "__class__" = some (some (.builtin "object.__class__"))
  cg : PySem.W.specialIn K (.builtin "object.__class__") "__get__" = some (some (.builtin "getset_descriptor.__get__"))
  ct : PySem.W.takesIn K (.builtin "object.__class__") = some true
  mo : PySem.W.mroIn K C (.type "object") = some true
def rErrIs (K : PySem.W.Frag) : List V → Hp → VK → Prop := fun xs H Q => ∃ (a C : Addr) (d : Option Addr) (c : V) (u : Value) (b : Bool), xs = [.ref a, c] ∧ H a = some (exo a C d) ∧ (∀ dx, d = some dx → ∃ fs, H dx = some (exd dx fs)) ∧ ErrC K C ∧ ClsV c u ∧ PySem.W.kitOne K (.ref C) u = some b ∧ Q (.bl b) H
theorem call_errIs : CallR X (.builtin "isinstance") (rErrIs X.K) := by
  intro pins s σ H xs us Q I r h
  obtain ⟨a, C, d, c, u, b, rfl, ea, ed, T, k, e, q⟩ := h
  obtain ⟨u1, u2, rfl, r1, r2⟩ := vals2 r
  obtain rfl : u1 = Value.ref a := r1
  obtain rfl := k.eq r2
  obtain ⟨ox, od, J⟩ := err_inst I.hok ea ed
  exact PySem.W.kia_one (PySem.W.kitx_exc T.cls T.ga T.gg T.sub T.ca T.cg T.ct T.mo) I.kIn J e (fun z => nomatch z) fun tk => ⟨.bl b, H, I.tok tk, rfl, q⟩
/-! two errors of one class without an __eq__ of its own are unequal unless they are one -/
theorem err_apart {prog : Program} {w : World} {A : Around} {E : Value → Shared → Prop} {s : Shared} {K : PySem.W.Frag} {a b D : Addr} {oa ob : Obj} {da db : Option Obj} {Q : Value → Shared → Prop} (hu : A.units < cLine) (hK : K.In s.heap) (I : PySem.W.InstAt s.heap a oa D da) (J : PySem.W.InstAt s.heap b ob D db)
    (mo : PySem.W.mroIn K D (.type "object") = some true) (eq : PySem.W.findIn K (.ref D) "__eq__" = some (some (.builtin "object.__eq__"))) (ne : a ≠ b) (h : Q (.bool false) s) : wpAny (model prog w) A (compareOp .Eq (.ref a) (.ref b)) Q E s := by
  have nt : ∀ {o : Obj} {c : Addr} {dd : Option Obj}, PySem.W.InstAt s.heap c o D dd → o.cls ≠ .type "tuple" := fun z e => by
    rw [z.2] at e
    cases e
  have half : ∀ {c c' : Addr} {o o' : Obj} {d d' : Option Obj}, PySem.W.InstAt s.heap c o D d → PySem.W.InstAt s.heap c' o' D d' → c ≠ c' → wpAny (model prog w) A (tryCompare (.ref c) "__eq__" (.ref c')) (fun r s' => r = none ∧ s' = s) E s := fun z z' n => by
    unfold tryCompare
    refine wpAny_bind (HN.ifBound_objEq hK z eq (wpAny_call (codeAny_call_builtin F.cmp_object.eq.plain F.cmpEntry_eq (PySem.W.check_slot F.cmpKind_eq F.cmpSplit_eq (z.type.andThen (PySem.W.looks_mroIn hK mo)) (F.cmpArgs_eq _ _) (objEq_entry_other n z.1 z'.1 (nt z) ?_)))))
    exact wpAny_pure ⟨rfl, rfl⟩
  show wpAny _ _ (richCompare .Eq _ _) _ _ _
  simp only [richCompare, cmpInfo_Eq, oneThing_ref]
  refine wpAny_holding (wpAny_bind (wpAny_cRoomFor hu ?_))
  refine wpAny_bind (I.type.here (wpAny_bind (J.type.here ?_)))
  rw [if_neg (by simp)]
  refine wpAny_bind (wpAny_pure ?_)
  simp only [Bool.false_eq_true, if_false, Bool.not_false, if_true]
  refine wpAny_bind (m := tryCompare (.ref a) _ (.ref b)) (wpAny_mono (half I J ne) (fun r s1 z => ?_) fun _ _ e => e)
  obtain ⟨rfl, rfl⟩ := z
  refine wpAny_bind (m := tryCompare (.ref b) _ (.ref a)) (wpAny_mono (half J I ne.symm) (fun r s2 z => ?_) fun _ _ e => e)
  obtain ⟨rfl, rfl⟩ := z
  exact wpAny_bind (wpAny_rule (wpAny_bind (wpAny_isSame_ref_other ne I.1 J.1 (nt I) (wpAny_pure h))))
def rErrEq (K : PySem.W.Frag) : R2 := fun x y H Q => ∃ (a b D : Addr) (d d' : Option Addr), x = .ref a ∧ y = .ref b ∧ a ≠ b ∧ H a = some (exo a D d) ∧ H b = some (exo b D d') ∧ (∀ dx, d = some dx → ∃ fs, H dx = some (exd dx fs)) ∧ (∀ dx, d' = some dx → ∃ fs, H dx = some (exd dx fs)) ∧
  PySem.W.mroIn K D (.type "object") = some true ∧ PySem.W.findIn K (.ref D) "__eq__" = some (some (.builtin "object.__eq__")) ∧ Q (.bl false) H
theorem op_errEq (hu : X.A.units < cLine) : OpR X (compareOp .Eq) (rErrEq X.K) := by
  intro pins s σ H x y v u Q I rx ry h
  obtain ⟨a, b, D, d, d', rfl, rfl, ne, ea, eb, ed, ed', mo, eq, q⟩ := h
  obtain rfl : v = Value.ref a := rx
  obtain rfl : u = Value.ref b := ry
  obtain ⟨oa, da, Ia⟩ := err_inst I.hok ea ed
  obtain ⟨ob, db, Ib⟩ := err_inst I.hok eb ed'
  exact err_apart hu I.kIn Ia Ib mo eq ne ⟨.bl false, H, I, rfl, q⟩
/-- C() of a class without an __init__ of its own -/
theorem pe_errB (T : OexC X.K C) (iC : PySem.W.findIn X.K (.ref C) "__init__" = some (some (.builtin "ValueError.__init__"))) (hg : Gl X x) (hm : X.mg x = some (.ref C)) (hdb : (x == ("__debug__" : Str)) = false := by decide) :
    PE X (.Call (.Name x p) [] [] pos) (fun σ H Q => ∀ a, H a = none → Q (.ref a) (upd H a (exo a C none))) := ⟨fun pins s σ H Q I h => by
  refine wpAny_Call_Name_kw (ld_glob I hg hm (PySem.W.callWith_K0 I.kIn T.kC ?_) hdb)
  obtain ⟨nm, q, N, bs, bm, sn, sub, ab, col, dd, k0, k1, k2, k3, k5, hC, hbm⟩ := T.cls
  obtain ⟨hp, g, dr, tk, os⟩ := s
  refine PySem.W.call_B F.excBase_ValueError (fun Y => PySem.HandSPX.refsVE_contains Y bm hbm) (I.kIn _ _ hC) (PySem.W.looks_findIn I.kIn iC) (Nat.zero_le _) fun h' k e1 e2 => ?_
  exact ⟨.ref (hp.objs.size + 1), _, Inv.laid (t' := tk) (o := exo (hp.objs.size + 1) C none) I k (Nat.le_succ _) (exo_ok e1), rfl, h _ (I.hok.fresh (Nat.le_succ _))⟩⟩
/-- C(k = v, ..): keywords alone -/
def tErrK (C : Addr) (m : Nat) (sp : Sp) (gV : List V → List V → List V) (tk : TA) : TE := fun σ H Q => tk σ H fun zs H1 => zs.length = m ∧ ∀ a, H1 a = none → sp (gV [.ref a] zs) (upd H1 a (exo a C none)) (fun v H2 => v = .non ∧ Q (.ref a) H2) (fun _ _ _ => False)
theorem pe_errK {ks : List Str} {kws : List Keyword} {tk : TA} {g : List Value → List Value → List Value} {gV : List V → List V → List V} (T : OexC X.K C) (iC : PySem.W.findIn X.K (.ref C) "__init__" = some (some (.ref fI))) (tI : PySem.W.typeIn X.K (.ref fI) = some (.type "function"))
    (F1 : FnOk X.prog X.w X.K X.mg X.base CX k fI fd ps sp) (hr : Room (k + 1) X.A) (hb : KBn X.K fd ps 1 ks g gV) (hx : Passes CX X (fun _ _ _ => False)) (hg : Gl X x) (hm : X.mg x = some (.ref C)) (hkw : PK X kws tk)
    (hall : (backToKw pos (keywordEach kws X.env)).all (·.1.isSome) = true := by rfl) (hks : (backToKw pos (keywordEach kws X.env)).filterMap (·.1) = ks := by rfl) (hdb : (x == ("__debug__" : Str)) = false := by decide)
    (hpl : ((backTo pos (starEach [] X.env)).any (·.1) || (backToKw pos (keywordEach kws X.env)).any (·.1.isNone)) = false := by rfl) :
    PE X (.Call (.Name x p) [] kws pos) (tErrK C ks.length sp gV tk) := ⟨fun pins s σ H Q I h => by
  refine wpAny_Call_Name_kw (ld_glob I hg hm (PySem.W.callWith_KW0 (h₀ := X.base) I.ok.mod.kin T.kC hall (thn (hkw.run pos pins s σ H _ I h) fun ws s1 h1 => ?_) hpl) hdb)
  obtain ⟨zs, H1, I1, rz, lz, q1⟩ := h1
  refine ⟨I1.kIn, ?_⟩
  rw [hks]
  obtain ⟨nm, q, N, bs, bm, sn, sub, ab, col, dd, k0, k1, k2, k3, k5, hC, hbm⟩ := T.cls
  obtain ⟨hp, gg, dr, tk, os⟩ := s1
  have room : hp.objs.size ≤ hp.objs.size + 1 := Nat.le_succ _
  have hq := q1 (hp.objs.size + 1) (I1.hok.fresh room)
  let h2 := (hp.push (PySem.W.kdv_tup [])).push (PySem.HandSPX.excO C hp.objs.size)
  have at2 : h2.get? (hp.objs.size + 1) = some (PySem.HandSPX.excO C hp.objs.size) := by heap_get
  have I2 : Inv X pins σ (upd H1 (hp.objs.size + 1) (exo (hp.objs.size + 1) C none)) ⟨h2, gg, dr, tk, os⟩ :=
    Inv.laid (t' := tk) (a := hp.objs.size + 1) (o := exo (hp.objs.size + 1) C none) (h' := h2) I1 (fun b o z => Heap.get?_push_of_some _ (Heap.get?_push_of_some _ z)) room (exo_ok at2)
  have r2 := hb.rel (vs := [V.ref (hp.objs.size + 1)]) (us := [Value.ref (hp.objs.size + 1)]) (.cons rfl .nil) rz
  have e2 : ws.length = ks.length := rz.length.symm.trans lz
  have run := F1.run _ X.stack _ _ ⟨[Value.ref (hp.objs.size + 1)], ks.zip ws⟩ _ _ _ (fun _ _ _ => False) (hr.make C [] (ks.zip ws)) (I2.env0.make C [] (ks.zip ws)) (hb.to _ [Value.ref (hp.objs.size + 1)] ws I2.kIn rfl e2) r2 hq
  show wpAny _ _ (call (.ref C) [] (ks.zip ws)) _ _ _
  refine wpAny_call (PySem.ErrKw.kw_call F.excBase_ValueError (fun Y => PySem.HandSPX.refsVE_contains Y bm hbm) (I1.kIn _ _ hC) (PySem.W.looks_findIn I1.kIn iC) (fun self => PySem.W.bind_fn I1.kIn self tI) (Nat.zero_le _) (codeAny_mono run fun r s' z => ?_))
  match r, z with
  | .error er, z => exact hx pins σ _ _ er s' I2 z
  | .ok (.ret u), z =>
    obtain ⟨v, H', I3, rv, ev, q3⟩ := I2.after z
    subst ev
    exact ⟨rv, V.ref (hp.objs.size + 1), H', I3, rfl, q3⟩
  | .ok .next, z => exact False.elim z
  | .ok .brk, z => exact False.elim z
  | .ok .cont, z => exact False.elim z⟩
end
end DQ

set_option Elab.async false
set_option linter.all false
set_option maxRecDepth 100000
set_option maxHeartbeats 1000000
namespace DQ
open PySem PySem.Spec PyProof.Rows L2
/-- the sorted facts -/
def sortF (fs : List Fact) : List Fact := fs.mergeSort (PySem.W.dataLe false Fact.d)
theorem sortF_len (fs : List Fact) : (sortF fs).length = fs.length := List.length_mergeSort _
theorem sort_map (zs : List (V × Fact)) : (zs.mergeSort (PySem.W.dataLe false fun z => z.2.d)).map (·.2) = sortF (zs.map (·.2)) :=
  List.map_mergeSort fun _ _ _ _ => rfl
def Fact.nums : Fact → List Int
  | .mark _ i => [i]
  | .link _ a b => [a, b]
theorem nil_read {σ : L2.St} {H : Hp} {Q : List V → Hp → Prop} (h : Q [] H) : tNil σ H Q := h
/-- len of a list or a tuple, its relation by name (for use inside a comprehension) -/
def rLenS (K : PySem.W.Frag) : List V → Hp → VK → Prop := fun xs H Q => ∃ p ys, xs = [V.ref p] ∧ (SqL K H p ys ∨ SqT K H p ys) ∧ Q (V.int (ys.length : Nat)) H
theorem stoAt_same {H H' : Hp} {v : V} {S : Store} (s : Same H H') (A : StoAt H v S) : StoAt H' v S := by
  obtain ⟨t, m, c, i, f, rs, e, h1, h2, h3, h4, h5, tp⟩ := A
  exact ⟨t, m, c, i, f, rs, e, s _ _ h1, s _ _ h2, s _ _ h3, s _ _ h4, s _ _ h5, tp.keep (tk_same s)⟩
theorem paired_mono {α β : Type} {R R' : α → β → Prop} (m : ∀ a b, R a b → R' a b) : ∀ {xs : List α} {ys : List β}, Paired R xs ys → Paired R' xs ys
  | _, _, .nil => .nil
  | _, _, .cons h t => .cons (m _ _ h) (paired_mono m t)
theorem paired_at {α β : Type} {R : α → β → Prop} : ∀ {xs : List α} {ys : List β}, Paired R xs ys → ∀ {i : Nat} {x : α}, xs[i]? = some x → ∃ y, ys[i]? = some y ∧ R x y
  | _, _, .nil, i, x, h => by simp at h
  | _, _, .cons r _, 0, x, h => by cases h; exact ⟨_, rfl, r⟩
  | _, _, .cons _ t, i + 1, x, h => paired_at t (by simpa using h)
/-- a comprehension whose items are told ahead -/
theorem lc_vals {J : It} {n : Nat} {G : Hp → Prop} {Y : Nat → Hp → V → Hp → Prop} (w : Walk J n G Y) {g : TG} {te : TE} {vs : List Nat} {σ : L2.St} {H1 : Hp} {D : Addr} {Qd : Hp → Prop} (bs : List V) (hn : bs.length = n) (few : n < sizeLine) (nD : H1 D = none)
    (hG : ∀ H, Same H1 H → G H) (hY : ∀ i H x H', Y i H x H' → Same H H')
    (hs : ∀ i x H H' b, i < n → bs[i]? = some b → Same H1 H → Y i H x H' → ∀ R : V → Hp → Prop, (∀ H4, Same H' H4 → R b H4) → g x (wipe σ vs) H' fun σ2 H2 => wipe σ2 vs = wipe σ vs ∧ te σ2 H2 R)
    (hd : ∀ H, Same H1 H → H D = some (.lst bs) → Qd H) (gm : ∀ x σ H (Q Q' : L2.St → Hp → Prop), (∀ σ H, Q σ H → Q' σ H) → g x σ H Q → g x σ H Q') :
    ∃ W : Nat → Nat → Hp → Prop, (∃ m, W 0 m (upd H1 D (.lst []))) ∧ ∀ i m H, W i m H →
      (J.stop i H ∧ Qd H) ∨ (J.go i H ∧ ∃ Nx : Hp → Prop, (∀ H', Nx H' → ∃ m', m' < m ∧ W (i + 1) m' H') ∧ ∀ x H', J.yld i H x H' → g x (wipe σ vs) H' fun σ2 H2 => wipe σ2 vs = wipe σ vs ∧ tYes σ2 H2 fun b H3 =>
        if b = true then te σ2 H3 fun y H4 => ∃ acc, H4 D = some (.lst acc) ∧ acc.length < sizeLine ∧ Nx (upd H4 D (.lst (acc ++ [y]))) else Nx H3) := by
  refine lc_it w (fun i H => H D = some (.lst (bs.take i)) ∧ Same H1 H) ⟨upd_same, same_new nD⟩ (fun i H _ p => hG H p.2) (fun i x H H' hi p y => ?_) fun H p => hd H p.2 (by rw [← hn, List.take_length] at p; exact p.1)
  obtain ⟨e, s⟩ := p
  have hb : bs[i]? = some bs[i] := List.getElem?_eq_getElem (by omega)
  refine (fun z => gm x _ _ _ _ (fun σ2 H2 z => ⟨z.1, z.2⟩) z) (hs i x H H' _ hi hb s y (fun y H4 => ∃ acc, H4 D = some (.lst acc) ∧ acc.length < sizeLine ∧ upd H4 D (.lst (acc ++ [y])) D = some (.lst (bs.take (i + 1))) ∧ Same H1 (upd H4 D (.lst (acc ++ [y])))) fun H4 s4 => ?_)
  have e4 := s4 _ _ (hY _ _ _ _ y _ _ e)
  refine ⟨_, e4, ?_, ?_, ?_⟩
  · rw [List.length_take]
    omega
  · rw [take_next hb]
    exact upd_same
  · exact same_upd ((s.trans (hY _ _ _ _ y)).trans s4) nD
/-- what a pair's turn asks, however it goes on -/
theorem gpair_mono {K : PySem.W.Frag} {i j : Nat} (v : V) (σ : L2.St) (H : Hp) (R R' : L2.St → Hp → Prop) (m : ∀ σ H, R σ H → R' σ H) (h : gTup K 2 (gCons (gName i) (gCons (gName j) gNil)) v σ H R) : gTup K 2 (gCons (gName i) (gCons (gName j) gNil)) v σ H R' := by
  obtain ⟨T, ys, e1, e2, e3, z1, r1, e4, z2, r2, e5, e6, h⟩ := h
  exact ⟨T, ys, e1, e2, e3, z1, r1, e4, z2, r2, e5, e6, m _ _ h⟩
def Fact.kind : Fact → Str
  | .mark _ _ => "mark"
  | .link _ _ _ => "link"
theorem fact_v (x : Fact) : x.v = .str x.kind :: .str x.word :: x.nums.map V.int := by cases x <;> rfl
theorem fact_cut (x : Fact) : cutV x.v none (some 2) = [.str x.kind, .str x.word] ∧ cutV x.v (some 2) none = x.nums.map V.int := by cases x <;> exact ⟨rfl, rfl⟩
theorem fact_len (x : Fact) : x.v.length = 3 ∨ x.v.length = 4 := by cases x <;> simp [Fact.v]
theorem nums_len (x : Fact) : x.nums.length ≤ 2 := by cases x <;> simp [Fact.nums]
theorem nums_in {S : Store} {x : Fact} (h : x.of S) : ∀ i ∈ x.nums, i ∈ S.items := fun i hi => by
  cases x with
  | mark m j => simp only [Fact.nums, List.mem_cons, List.not_mem_nil, or_false] at hi; rw [hi]; exact h.2
  | link c a b =>
    simp only [Fact.nums, List.mem_cons, List.not_mem_nil, or_false] at hi
    rcases hi with rfl | rfl
    · exact h.2.1
    · exact h.2.2
theorem pa_starK {X : Cx} {K : PySem.W.Frag} {e : Expr} {es : List Expr} {p : Pos} {te : TE} {t : TA} (hk : X.K = K) (he : PE X e te) (hr : PA X es t) (hs : starEach (.Starred e p :: es) X.env = (true, eval e X.env) :: starEach es X.env := by rfl) : PA X (.Starred e p :: es) (StX.tStar K te t) := by
  subst hk
  exact StX.pa_star he hr hs
theorem pi_tupK {X : Cx} {K : PySem.W.Frag} {tg l : Expr} {tl : TE} (hk : X.K = K) (h : PE X l tl) : PI X tg l (iTup K tl) := by
  subst hk
  exact pi_tup h
/-- a new store: neither it nor its parts were there -/
def NewSto (H H' : Hp) (v : V) (S : Store) : Prop := ∃ (a m c i f : Addr) (rs : List V), v = .ref a ∧ H' a = some (.tup [.str "store", .ref m, .ref c, .ref i, .ref f]) ∧ H' m = some (.lst (S.marks.map V.str)) ∧ H' c = some (.lst (S.columns.map V.str)) ∧ H' i = some (.lst (S.items.map V.int)) ∧ H' f = some (.lst rs) ∧ Tups H' rs (S.facts.map Fact.v) ∧
  H a = none ∧ H m = none ∧ H c = none ∧ H i = none ∧ H f = none ∧ m ≠ c ∧ m ≠ i ∧ m ≠ f ∧ c ≠ i ∧ c ≠ f ∧ i ≠ f
theorem NewSto.at {H H' : Hp} {v : V} {S : Store} (N : NewSto H H' v S) : StoAt H' v S := by
  obtain ⟨a, m, c, i, f, rs, e, h1, h2, h3, h4, h5, tp, _⟩ := N
  exact ⟨a, m, c, i, f, rs, e, h1, h2, h3, h4, h5, tp⟩
theorem NewSto.up {H H1 H' : Hp} {v : V} {S : Store} (s : Same H H1) (N : NewSto H1 H' v S) : NewSto H H' v S := by
  obtain ⟨a, m, c, i, f, rs, e, h1, h2, h3, h4, h5, tp, n1, n2, n3, n4, n5, ne⟩ := N
  exact ⟨a, m, c, i, f, rs, e, h1, h2, h3, h4, h5, tp, s.free n1, s.free n2, s.free n3, s.free n4, s.free n5, ne⟩
theorem keep_del {g : Addr} {H H' : Hp} (k : Keep g H H') : Same (del H g) (del H' g) := fun b o h => by
  by_cases e : b = g
  · rw [e] at h; simp [del] at h
  · rw [del_ne e] at h ⊢
    exact k b o e h
theorem keep_del2 {g D : Addr} {H H' : Hp} (k : ∀ b o, b ≠ g → b ≠ D → H b = some o → H' b = some o) : Same (del (del H g) D) (del (del H' g) D) := fun b o h => by
  by_cases e : b = D
  · rw [e] at h; simp [del] at h
  · rw [del_ne e] at h ⊢
    by_cases e2 : b = g
    · rw [e2] at h; simp [del] at h
    · rw [del_ne e2] at h ⊢
      exact k b o e2 e h
theorem del_le {D : Addr} {H : Hp} : Same (del H D) H := fun b o h => by
  by_cases e : b = D
  · rw [e] at h; simp [del] at h
  · rwa [del_ne e] at h
theorem paired_snoc {α β : Type} {R : α → β → Prop} {a : α} {b : β} (h : R a b) : ∀ {xs : List α} {ys : List β}, Paired R xs ys → Paired R (xs ++ [a]) (ys ++ [b])
  | _, _, .nil => .cons h .nil
  | _, _, .cons r t => .cons r (paired_snoc h t)
theorem small1000' {n : Nat} (h : n ≤ 1000) : n ≤ sizeLine := Nat.le_trans h (by decide)
theorem seq_new {K : PySem.W.Frag} {H H1 H2 : Hp} {a g : Addr} {xs : List V} (h : SqL K H a xs) (s : Same H H1) (n : H g = none) (k : Keep g H1 H2) : SqL K H2 a xs := by
  rcases h with (h | ⟨o, h⟩) | h
  · exact .inl (.inl (k _ _ (ne_of_none h n) (s _ _ h)))
  · exact .inl (.inr ⟨o, k _ _ (ne_of_none h n) (s _ _ h)⟩)
  · exact .inr h
theorem del_same' {g : Addr} {H : Hp} : del H g g = none := by simp [del]
end DQ

set_option Elab.async false
set_option linter.all false
set_option maxRecDepth 100000
set_option maxHeartbeats 1000000
namespace DQ
open PySem PySem.Spec PyProof.Rows L2
/-! ### edits -/
/-- two facts are one or not -/
def sameFact : (x y : Fact) → Decidable (x = y)
  | .mark m i, .mark n j => decidable_of_iff (m = n ∧ i = j) ⟨fun h => by rw [h.1, h.2], fun h => by injection h with a b; exact ⟨a, b⟩⟩
  | .link c a b, .link d e f => decidable_of_iff (c = d ∧ a = e ∧ b = f) ⟨fun h => by rw [h.1, h.2.1, h.2.2], fun h => by injection h with p q r; exact ⟨p, q, r⟩⟩
  | .mark _ _, .link _ _ _ => .isFalse fun h => by cases h
  | .link _ _ _, .mark _ _ => .isFalse fun h => by cases h
instance : DecidableEq Fact := sameFact
inductive Edit where
  | put (x : Fact)
  | take (x : Fact)
  | add (i : Int)
  | drop (i : Int)
def Edit.word : Edit → Str
  | .put _ => "put"
  | .take _ => "take"
  | .add _ => "add"
  | .drop _ => "drop"
def Edit.back : Edit → Edit
  | .put x => .take x
  | .take x => .put x
  | .add i => .drop i
  | .drop i => .add i
def sortI (ns : List Int) : List Int := ns.mergeSort fun a b => decide (a ≤ b)
def ofB (S : Store) : Fact → Bool
  | .mark m i => decide (m ∈ S.marks) && decide (i ∈ S.items)
  | .link c a b => decide (c ∈ S.columns) && (decide (a ∈ S.items) && decide (b ∈ S.items))
def leads (x y : Fact) : Bool := match x, y with
  | .link c a b, .link c' a' b' => decide (c' = c) && (decide (a' = a) || decide (b' = b))
  | _, _ => false
def ledB (fs : List Fact) (x : Fact) : Bool := fs.any fun y => leads x y
def hasI (fs : List Fact) (i : Int) : Bool := fs.any fun y => decide (i ∈ y.nums)
/-- the store behind an edit, if it can be made -/
def step (S : Store) : Edit → Option Store
  | .put x => if (ofB S x && !decide (x ∈ S.facts) && !ledB S.facts x) = true then some { S with facts := sortF (S.facts ++ [x]) } else none
  | .take x => if x ∈ S.facts then some { S with facts := S.facts.filter fun y => decide (y ≠ x) } else none
  | .add i => if i ∈ S.items then none else some { S with items := sortI (S.items ++ [i]) }
  | .drop i => if (decide (i ∈ S.items) && !hasI S.facts i) = true then some { S with items := S.items.filter fun y => decide (y ≠ i) } else none
theorem ofB_iff {S : Store} {x : Fact} : ofB S x = true ↔ x.of S := by
  cases x <;> simp [ofB, Fact.of]
/-! sorted lists -/
theorem dlt_asym {x y : PyData} (h : PySem.W.dataLt x y = true) : PySem.W.dataLt y x = false := by
  cases q : PySem.W.dataLt y x with
  | false => rfl
  | true => exact absurd (lex_trans _ _ _ h q) (by rw [lex_irrefl]; decide)
theorem rise_eq {l m : List Fact} (p : l.Perm m) (hl : l.Pairwise fun x y => PySem.W.dataLt x.d y.d = true) (hm : m.Pairwise fun x y => PySem.W.dataLt x.d y.d = true) : l = m :=
  List.Perm.eq_of_pairwise (le := fun x y : Fact => PySem.W.dataLt x.d y.d = true) (fun a b _ _ h1 h2 => absurd h2 (by rw [dlt_asym h1]; decide)) hl hm p
theorem rise_nodup {l : List Fact} (hl : l.Pairwise fun x y => PySem.W.dataLt x.d y.d = true) : l.Nodup := hl.imp fun {a b} h e => by
  rw [e] at h
  exact absurd h (by rw [dlt_asym h]; decide)
theorem sortF_perm (fs : List Fact) : (sortF fs).Perm fs := List.mergeSort_perm _ _
theorem sortF_rise {fs : List Fact} (nd : fs.Nodup) : (sortF fs).Pairwise fun x y => PySem.W.dataLt x.d y.d = true := by
  have e : ((fs.map fun f => (V.non, f)).map (·.2)) = fs := by rw [List.map_map]; exact List.map_id _
  have z := sorted_rise (zs := fs.map fun f => (V.non, f)) (by rw [e]; exact nd)
  rwa [sort_map, e] at z
theorem sortF_id {fs : List Fact} (h : fs.Pairwise fun x y => PySem.W.dataLt x.d y.d = true) : sortF fs = fs := rise_eq (sortF_perm fs) (sortF_rise (rise_nodup h)) h
theorem sortI_perm (ns : List Int) : (sortI ns).Perm ns := List.mergeSort_perm _ _
theorem sortI_le (ns : List Int) : (sortI ns).Pairwise (· ≤ ·) :=
  (List.pairwise_mergeSort (le := fun a b : Int => decide (a ≤ b)) (fun a b c h1 h2 => decide_eq_true (Int.le_trans (of_decide_eq_true h1) (of_decide_eq_true h2))) (fun a b => by
    rcases Int.le_total a b with h | h
    · rw [decide_eq_true h]; rfl
    · rw [decide_eq_true h, Bool.or_true]) ns).imp fun h => of_decide_eq_true h
theorem sortI_of {ns ms : List Int} (p : ms.Perm ns) (h : ms.Pairwise (· ≤ ·)) : ms = sortI ns :=
  List.Perm.eq_of_pairwise (le := fun x y : Int => x ≤ y) (fun _ _ _ _ h1 h2 => Int.le_antisymm h1 h2) h (sortI_le ns) (p.trans (sortI_perm ns).symm)
theorem sortI_id {ns : List Int} (h : ns.Pairwise (· < ·)) : sortI ns = ns := (sortI_of (List.Perm.refl _) (h.imp fun h => Int.le_of_lt h)).symm
theorem sortI_lt {ns : List Int} (nd : ns.Nodup) : (sortI ns).Pairwise (· < ·) :=
  (List.pairwise_and_iff.mpr ⟨sortI_le ns, (sortI_perm ns).nodup_iff.mpr nd⟩).imp fun {a b} h => by have h1 := h.1; have h2 := h.2; omega
theorem lt_eq {l m : List Int} (p : l.Perm m) (hl : l.Pairwise (· < ·)) (hm : m.Pairwise (· < ·)) : l = m :=
  List.Perm.eq_of_pairwise (le := fun x y : Int => x < y) (fun a b _ _ h1 h2 => absurd h2 (by omega)) hl hm p
/-! few facts -/
def Fact.key : Fact → Str × Int
  | .mark m i => (m, i)
  | .link c a _ => (c, a)
theorem no_both {m : Nat} {S : Store} (D : Drawn m S) {x : Str} (h1 : x ∈ S.marks) (h2 : x ∈ S.columns) : False := by
  obtain ⟨k, _, ek⟩ := D.marks
  obtain ⟨j, _, _, ej⟩ := D.columns
  rw [ek] at h1
  rw [ej] at h2
  have h1 := List.mem_of_mem_take h1
  have h2 := List.mem_of_mem_take h2
  simp only [List.mem_cons, List.not_mem_nil, or_false] at h1 h2
  rcases h1 with rfl | rfl | rfl <;> rcases h2 with h | h <;> revert h <;> decide +kernel
/-- a drawn store, whatever its number of facts -/
structure Drawn0 (m : Nat) (S : Store) : Prop where
  marks : ∃ k, k ≤ 3 ∧ S.marks = (["red", "blue", "gold"] : List Str).take k
  columns : ∃ k, 1 ≤ k ∧ k ≤ 2 ∧ S.columns = (["next", "below"] : List Str).take k
  items : Rising S.items
  few : S.items.length ≤ m
  rise : S.facts.Pairwise fun x y => PySem.W.dataLt x.d y.d = true
  facts : ∀ x ∈ S.facts, x.of S
  links : ∀ c, OneToOne S.items (linksOf c S.facts)
theorem no_both0 {m : Nat} {S : Store} (D : Drawn0 m S) {x : Str} (h1 : x ∈ S.marks) (h2 : x ∈ S.columns) : False := by
  obtain ⟨k, _, ek⟩ := D.marks
  obtain ⟨j, _, _, ej⟩ := D.columns
  rw [ek] at h1
  rw [ej] at h2
  have h1 := List.mem_of_mem_take h1
  have h2 := List.mem_of_mem_take h2
  simp only [List.mem_cons, List.not_mem_nil, or_false] at h1 h2
  rcases h1 with rfl | rfl | rfl <;> rcases h2 with h | h <;> revert h <;> decide +kernel
theorem Drawn0.fewFacts {m : Nat} {S : Store} (D : Drawn0 m S) : S.facts.length ≤ 5 * m := by
  have lm : S.marks.length ≤ 3 := by
    obtain ⟨k, _, ek⟩ := D.marks
    rw [ek, List.length_take]
    exact Nat.min_le_right _ _
  have lc : S.columns.length ≤ 2 := by
    obtain ⟨k, _, _, ek⟩ := D.columns
    rw [ek, List.length_take]
    exact Nat.min_le_right _ _
  have nd : (S.facts.map Fact.key).Nodup := by
    refine List.pairwise_map.mpr ((List.pairwise_and_iff.mpr ⟨rise_nodup D.rise, List.pairwise_of_forall_mem_list fun a ha b hb => (⟨ha, hb⟩ : a ∈ S.facts ∧ b ∈ S.facts)⟩).imp fun {x y} h e => ?_)
    obtain ⟨ne, hx, hy⟩ := h
    have ox := D.facts x hx
    have oy := D.facts y hy
    cases x with
    | mark p i =>
      cases y with
      | mark q j =>
        injection e with e1 e2
        exact ne (by rw [e1, e2])
      | link c a b =>
        injection e with e1 e2
        rw [← e1] at oy
        exact no_both0 D ox.1 oy.1
    | link c a b =>
      cases y with
      | mark q j =>
        injection e with e1 e2
        rw [e1] at ox
        exact no_both0 D oy.1 ox.1
      | link c' a' b' =>
        injection e with e1 e2
        subst e1 e2
        exact ne (by rw [one_place (D.links c).1 (mem_links hx) (mem_links hy)])
  have sub : ∀ k ∈ S.facts.map Fact.key, k ∈ (S.marks ++ S.columns).flatMap fun w => S.items.map fun i => (w, i) := fun k hk => by
    obtain ⟨x, hx, rfl⟩ := List.mem_map.mp hk
    have ox := D.facts x hx
    refine List.mem_flatMap.mpr ?_
    cases x with
    | mark p i => exact ⟨p, List.mem_append_left _ ox.1, List.mem_map.mpr ⟨i, ox.2, rfl⟩⟩
    | link c a b => exact ⟨c, List.mem_append_right _ ox.1, List.mem_map.mpr ⟨a, ox.2.1, rfl⟩⟩
  have l := nd.length_le_of_subset sub
  rw [List.length_map, List.length_flatMap] at l
  have e : ((S.marks ++ S.columns).map fun w => (S.items.map fun i => (w, i)).length).sum = (S.marks ++ S.columns).length * S.items.length := by
    generalize S.marks ++ S.columns = ws
    induction ws with
    | nil => simp
    | cons w r ih => rw [List.map_cons, List.sum_cons, ih, List.length_map, List.length_cons, Nat.add_mul, Nat.one_mul, Nat.add_comm]
  rw [e, List.length_append] at l
  have := Nat.mul_le_mul (show S.marks.length + S.columns.length ≤ 5 by omega) D.few
  omega
theorem Drawn0.full {m : Nat} {S : Store} (D : Drawn0 m S) (hm : m ≤ 200) : Drawn m S := ⟨D.marks, D.columns, D.items, D.few, by have := D.fewFacts; omega, D.rise, D.facts, D.links⟩
theorem Drawn.zero {m : Nat} {S : Store} (D : Drawn m S) : Drawn0 m S := ⟨D.marks, D.columns, D.items, D.few, D.rise, D.facts, D.links⟩
end DQ

set_option Elab.async false
set_option linter.all false
set_option maxRecDepth 100000
set_option maxHeartbeats 2000000
namespace DQ
open PySem PySem.Spec PyProof.Rows L2
/-! ### {item: True for item in items}: its keys, len, sorted -/
def KeysAt (H : Hp) (D : Addr) (ks : List Int) : Prop := ∃ kvs : List (Key × V), H D = some (.dK kvs) ∧ kvs.map (·.1) = ks.map Sum.inl
theorem val_keys {kvs : List (Key × V)} {ks : List Int} (h : kvs.map (·.1) = ks.map Sum.inl) (i : Int) : (valV kvs (.inl i)).isSome = decide (i ∈ ks) := by
  rw [← valV_any, Bool.eq_iff_iff, List.any_eq_true, decide_eq_true_eq]
  constructor
  · intro ⟨x, hx, e⟩
    have e := of_decide_eq_true e
    have m : x.1 ∈ kvs.map (·.1) := List.mem_map.mpr ⟨x, hx, rfl⟩
    rw [h, e] at m
    obtain ⟨j, hj, ej⟩ := List.mem_map.mp m
    injection ej with ej
    rw [← ej]; exact hj
  · intro hi
    have m : (Sum.inl i : Key) ∈ kvs.map (·.1) := by rw [h]; exact List.mem_map.mpr ⟨i, hi, rfl⟩
    obtain ⟨x, hx, e⟩ := List.mem_map.mp m
    exact ⟨x, hx, decide_eq_true e⟩
theorem keys_put {kvs : List (Key × V)} {ks : List Int} (h : kvs.map (·.1) = ks.map Sum.inl) (i : Int) (v : V) : (putK kvs (.inl i) v).map (·.1) = (if i ∈ ks then ks else ks ++ [i]).map Sum.inl := by
  have z := val_keys h i
  unfold putK
  rw [valV_any, z]
  by_cases c : i ∈ ks
  · rw [if_pos (decide_eq_true c), if_pos c, ← h, List.map_map]
    refine List.map_congr_left fun x _ => ?_
    show (if x.1 = Sum.inl i then (x.1, v) else x).1 = x.1
    split <;> rfl
  · rw [if_neg (by simp [c]), if_neg c, List.map_append, List.map_append, h]; rfl
/-- the numbers, each once -/
def onces : List Int → List Int := List.foldl (fun ks i => if i ∈ ks then ks else ks ++ [i]) []
theorem onces_snoc (ns : List Int) (i : Int) : onces (ns ++ [i]) = if i ∈ onces ns then onces ns else onces ns ++ [i] := by
  unfold onces; rw [List.foldl_append]; rfl
theorem onces_take {ns : List Int} {k : Nat} {i : Int} (h : ns[k]? = some i) : onces (ns.take (k + 1)) = if i ∈ onces (ns.take k) then onces (ns.take k) else onces (ns.take k) ++ [i] := by rw [take_next h, onces_snoc]
theorem onces_facts : ∀ n (ns : List Int), ns.length = n → (onces ns).Nodup ∧ (∀ i, i ∈ onces ns ↔ i ∈ ns) ∧ (onces ns).length ≤ ns.length
  | 0, ns, h => by
    cases List.length_eq_zero_iff.mp h
    exact ⟨.nil, fun i => Iff.rfl, Nat.le_refl _⟩
  | n + 1, ns, h => by
    have ne : ns ≠ [] := fun e => by rw [e] at h; cases h
    have e := List.dropLast_concat_getLast ne
    generalize ns.dropLast = ms at e
    generalize ns.getLast ne = i at e
    subst e
    have lm : ms.length = n := by rw [List.length_append, List.length_singleton] at h; omega
    obtain ⟨a, b, c⟩ := onces_facts n ms lm
    rw [onces_snoc]
    by_cases m : i ∈ onces ms
    · rw [if_pos m]
      refine ⟨a, fun j => ?_, by rw [List.length_append]; omega⟩
      rw [b j, List.mem_append, List.mem_singleton]
      exact ⟨.inl, fun z => z.elim id fun z => by rw [z]; exact (b i).mp m⟩
    · rw [if_neg m]
      refine ⟨?_, fun j => ?_, by rw [List.length_append, List.length_append]; simp only [List.length_singleton]; omega⟩
      · exact List.nodup_append.mpr ⟨a, List.nodup_cons.mpr ⟨List.not_mem_nil, .nil⟩, fun x hx y hy => by rw [List.mem_singleton.mp hy]; exact fun z => m (by rw [← z]; exact hx)⟩
      · rw [List.mem_append, List.mem_append, b j]
theorem dc_onces {K : PySem.W.Frag} {a : Addr} {ns : List Int} {i : Nat} {vs : List Nat} {σ : L2.St} {H1 : Hp} {D : Addr} {Qd : Hp → Prop} {te : TE} (hs : SqL K H1 a (ns.map V.int)) (few : ns.length ≤ 10000) (nD : H1 D = none)
    (hw : ∀ (x : V), wipe ((wipe σ vs).set i (some x)) vs = wipe σ vs) (ht : ∀ (x : V) H (Q : V → Hp → Prop), Q x H → te ((wipe σ vs).set i (some x)) H Q) (hd : ∀ H, Same H1 H → KeysAt H D (onces ns) → Qd H) :
    ∃ W : Nat → Nat → Hp → Prop, (∃ m, W 0 m (L2.upd H1 D (.dK []))) ∧ ∀ k m H, W k m H →
      ((Itl K a).stop k H ∧ Qd H) ∨ ((Itl K a).go k H ∧ ∃ Nx : Hp → Prop, (∀ H', Nx H' → ∃ m', m' < m ∧ W (k + 1) m' H') ∧ ∀ x H', (Itl K a).yld k H x H' → gName i x (wipe σ vs) H' fun σ2 H2 => wipe σ2 vs = wipe σ vs ∧ tYes σ2 H2 fun b H3 =>
        if b = true then te σ2 H3 fun y H4 => tC (.bl true) σ2 H4 fun z H5 => ∃ kvs k, y = kV k ∧ H5 D = some (.dK kvs) ∧ kvs.length < sizeLine ∧ Nx (L2.upd H5 D (.dK (putK kvs k z))) else Nx H3) := by
  refine ⟨fun k m H => m = ns.length - k ∧ k ≤ ns.length ∧ Same H1 H ∧ KeysAt H D (onces (ns.take k)), ⟨ns.length, by simp, Nat.zero_le _, same_new nD, [], upd_same, rfl⟩, ?_⟩
  rintro k m H ⟨rfl, hk, sm, kvs, eD, hv⟩
  have q := L2.Same.seq sm hs
  by_cases hlt : k < ns.length
  · refine .inr ⟨⟨_, _, q, by rw [List.getElem?_eq_getElem (by rw [List.length_map]; exact hlt)]⟩, fun H' => k + 1 ≤ ns.length ∧ Same H1 H' ∧ KeysAt H' D (onces (ns.take (k + 1))), fun H' p => ⟨ns.length - (k + 1), by omega, rfl, p⟩, fun x H' y => ?_⟩
    obtain ⟨e, y⟩ := y
    subst e
    obtain ⟨n, hn, rfl⟩ := at_map (y _ q)
    have lk : kvs.length ≤ 10000 := by
      have z := congrArg List.length hv
      rw [List.length_map, List.length_map] at z
      have y := (onces_facts _ (ns.take k) rfl).2.2
      rw [List.length_take] at y
      omega
    exact ⟨hw _, ht _ _ _ ⟨kvs, .inl n, rfl, eD, Nat.lt_of_le_of_lt lk (by decide), by omega, same_upd sm nD, _, upd_same, by rw [keys_put hv, onces_take hn]⟩⟩
  · have e : k = ns.length := by omega
    subst e
    rw [List.take_length] at hv
    exact .inl ⟨⟨_, q, by rw [List.length_map]; exact Nat.le_refl _⟩, hd H sm ⟨kvs, eD, hv⟩⟩
section
variable {X : Cx}
def rLenD : List V → Hp → VK → Prop := fun xs H Q => ∃ (a : Addr) (ks : List Int), xs = [.ref a] ∧ KeysAt H a ks ∧ Q (.int (ks.length : Nat)) H
theorem cr_lenD : CallR X (.builtin "len") rLenD := by
  intro pins s σ H xs us Q I r h
  obtain ⟨a, ks, rfl, ⟨kvs, ha, hk⟩, q⟩ := h
  rw [Vals.ref1 r]
  have e : kvs.length = ks.length := by
    have z := congrArg List.length hk
    rwa [List.length_map, List.length_map] at z
  exact d_len I (.inl ha) fun t s' I' => ⟨.int kvs.length, H, I', ⟨t, rfl⟩, by rw [e]; exact q⟩
/-- sorted(d), all keys numbers -/
def rSortD0 : List V → Hp → VK → Prop := fun xs H Q => ∃ (a : Addr) (ks : List Int), xs = [.ref a] ∧ KeysAt H a ks ∧ ks.length ≤ 10000 ∧ ∀ p, H p = none → Q (.ref p) (upd H p (.lst ((sortI ks).map V.int)))
theorem ints_out : ∀ {out : List Value} {l : List Int}, PySem.W.EachIs (fun (v : Value) (i : Int) => ∃ t, v = .int i t) out l → Vals (l.map V.int) out
  | _, _, .nil => .nil
  | _, _, .cons r t => .cons r (ints_out t)
theorem ints_in : ∀ {vs : List Value} {l : List Int}, vs.length = l.length → (∀ (j : Nat) v, vs[j]? = some v → ∃ i t, l[j]? = some i ∧ v = Value.int i t) → PySem.W.EachIs (fun (v : Value) (i : Int) => ∃ t, v = .int i t) vs l
  | [], [], _, _ => .nil
  | [], _ :: _, h, _ => by cases h
  | _ :: _, [], h, _ => by cases h
  | v :: vs, i :: l, h, g => by
    obtain ⟨i', t, e1, e2⟩ := g 0 v rfl
    cases e1
    exact .cons ⟨t, e2⟩ (ints_in (Nat.succ.inj h) fun j u hu => g (j + 1) u hu)
theorem cr_sortD0 (hc : X.calm = true) (hu : X.A.units + 64 < cLine) : CallR X (.builtin "sorted") rSortD0 := by
  intro pins s σ H xs us Q I r h
  obtain ⟨a, ks, rfl, ⟨kvs, ha, hk⟩, few, q⟩ := h
  rw [Vals.ref1 r]
  obtain ⟨z, lo, vs, rel, dd⟩ := dk_of I.hok ha
  obtain ⟨ep, hat⟩ := dd.dictAt
  have keys : vs.map (·.1) = ks.map Sum.inl := rel.keys.symm.trans hk
  have hl : vs.length = ks.length := by
    have e := congrArg List.length keys
    rwa [List.length_map, List.length_map] at e
  refine Calls.call_function_entry PyProof.Rows.kind_sorted PyProof.Rows.plain_sorted PyProof.Rows.entry_sorted (PyProof.Rows.args_sorted1 _) ?_
  unfold Builtin.«sorted»
  refine wpAny_bind (m := checkCount "sorted" 1 1 _) (wpAny_pure (wpAny_bind (PySem.W.kdu_collect (A := X.A.in1) (PySem.W.kdl_dict (knd := mixKind X.prog X.w) (kvs := vs) (ep := ep) lo) (I.ok.hd hc) hat (by rw [hl, sizeLine_eq]; omega) fun h' tk acc kp hacc => ?_)))
  have la : acc.toList.length = ks.length := by rw [Array.length_toList, hacc.1, hl]
  have each := ints_in la fun j v e => by
    obtain ⟨k, x, e1, e2⟩ := hacc.2 j v (by rw [← Array.getElem?_toList]; exact e)
    have e3 : (vs.map (·.1))[j]? = some k := by rw [List.getElem?_map, e1]; rfl
    rw [keys, List.getElem?_map] at e3
    cases e4 : ks[j]? with
    | none => rw [e4] at e3; cases e3
    | some y =>
      rw [e4] at e3
      obtain rfl : Sum.inl y = k := Option.some.inj e3
      rcases keyIs_shape (show keyIs (Sum.inl y) v = true from e2) with ⟨i, t, ek, ev⟩ | ⟨w, t, ek, ev⟩
      · cases ek; exact ⟨y, t, rfl, ev⟩
      · cases ek
  have I1 : Inv X pins σ H { s with heap := h', toks := tk } := I.kept kp
  refine wpAny_bind (wpAny_newList ?_ (by rw [la, sizeLine_eq]; omega))
  have hoL : (h'.push (seqObj "list" acc.toList.toArray 0)).get? h'.objs.size = some (seqObj "list" acc.toList.toArray 0) := Heap.get?_push_size _ rfl
  show wpAny _ _ _ _ _ { s with heap := h'.push (seqObj "list" acc.toList.toArray 0), toks := tk }
  refine wpAny_bind (wpAny_holding (PySem.W.list_sort_data (s := { s with heap := h'.push (seqObj "list" acc.toList.toArray 0), toks := tk }) (enc := PyData.int) hoL each (each.mono fun v i ⟨t, e⟩ => ⟨[], by rw [e]; exact Reads.int i t, by simp⟩) (.of fun _ _ => by simp [PySem.W.alike]) (.others fun b => ⟨by simp, by simp⟩) (by rw [sizeLine_eq]; omega) (fun b _ => ?_) fun out lo' eo => ?_))
  · show X.A.units + 1 + 1 + (PyData.int b).depth < cLine
    simp only [PyData.depth]
    omega
  obtain ⟨e', he'⟩ := PyProof.Rows.sortedHeap_at (vs := acc.toList) (out := out.toArray) hoL
  rw [PySem.W.dataLe_int (fun b => b)] at eo
  have lenS : ((sortI ks).map V.int).length ≤ sizeLine := by
    unfold sortI
    rw [List.length_map, List.length_mergeSort, sizeLine_eq]; omega
  refine wpAny_pure ⟨_, rfl, .ref h'.objs.size, upd H h'.objs.size (.lst ((sortI ks).map V.int)), I1.laid (t' := tk) (fun b u e => ?_) (Nat.le_refl _)
    (show ObjOk X.prog X.w _ _ _ (.lst ((sortI ks).map V.int)) from ⟨lenS, out, e', ints_out eo, he'⟩), rfl, q _ (I1.hok.fresh (Nat.le_refl _))⟩
  have hb : b < h'.objs.size := Heap.lt_size e
  rw [PyProof.Rows.sortedHeap_old (Nat.ne_of_lt hb) (by rw [size_push']; exact Nat.lt_succ_of_lt hb)]
  exact Heap.get?_push_of_some _ e
end
end DQ

set_option Elab.async false
set_option linter.all false
set_option maxRecDepth 100000
set_option maxHeartbeats 4000000
namespace DQ
open PySem PySem.Spec PyProof.Rows L2
abbrev sInit (i : Nat) : Stmt := inClass (topS i) 0
/-- what the written part says of an own error class with a field -/
structure ErrAt (K : PySem.W.Frag) (mg : Str → Option Value) (name qual : Str) (st : Stmt) (C : Addr) : Prop where
  g : mg name = some (.ref C)
  T : OexC K C
  xf : XfC K C
  noV : PySem.W.findIn K (.ref C) "value" = some none
  er : ErrC K C
  eq : PySem.W.findIn K (.ref C) "__eq__" = some (some (.builtin "object.__eq__"))
  init : ∃ (fI : Addr) (fd : FuncData), PySem.W.findIn K (.ref C) "__init__" = some (some (.ref fI)) ∧ PySem.W.typeIn K (.ref fI) = some (.type "function") ∧ FunD K "__init__" qual (defArgs st) (defBody st) (defScope st) [V.non] [] fI fd
def spInit (K : PySem.W.Frag) : Sp := fun vs H Q _ => ∃ (a C : Addr) (v : V), vs = [.ref a, v] ∧ OexC K C ∧ PySem.W.findIn K (.ref C) "value" = some none ∧ H a = some (exo a C none) ∧ ∀ d, H d = none → d ≠ a → Q .non (upd (upd H d (exd d [("value", v)])) a (exo a C (some d)))
def iA (p1 p2 p3 : Pos) : Arguments := { posonlyargs := [], args := [{ arg := "self", annotation := none, pos := p1 }, { arg := "value", annotation := none, pos := p2 }], vararg := none, kwonlyargs := [], kw_defaults := [], kwarg := none, defaults := [.Constant .none 0 p3] }
def iB (q1 q2 q3 q4 : Pos) : List Stmt := [.Assign [.Attribute (.Name "self" q1) "value" q2] (.Name "value" q3) q4]
def iS : Scope := { kind := .function, names := [("self", .local), ("value", .local)], isGenerator := false, isCoroutine := false, more := [] }
/-- the one text that all these __init__ have -/
def InitText (st : Stmt) : Prop := ∃ p1 p2 p3 q1 q2 q3 q4 : Pos, defArgs st = iA p1 p2 p3 ∧ defBody st = iB q1 q2 q3 q4 ∧ defScope st = iS
section
variable {P : Program} {w : World} {K : PySem.W.Frag} {mg : Str → Option Value} {base : Heap} {st : Stmt} {qual : Str} {fI : Addr} {fd : FuncData}
theorem scInit : FnScope ["self", "value"] ["self", "value"] iS := ⟨rfl, rfl, rfl, by decide +kernel, rfl, by decide +kernel, by decide +kernel⟩
theorem ok_init (t : InitText st) (F : FunD K "__init__" qual (defArgs st) (defBody st) (defScope st) [V.non] [] fI fd) : FnOk P w K mg base CX0 1 fI fd ["self", "value"] (spInit K) := by
  obtain ⟨p1, p2, p3, q1, q2, q3, q4, e1, e2, e3⟩ := t
  rw [e1, e2, e3] at F
  refine F.ok scInit (fun vs H Q E h => ?_) (fun cdv A outer s H vs Q E hr h => ?_)
  · obtain ⟨a, C, v, rfl, _⟩ := h
    rfl
  obtain ⟨a, C, v, rfl, T, no, ea, q⟩ := h
  refine ⟨_, PSs.nox (pss_one (ps_ost (pv 0) (pv 1))), ?_⟩
  exact ⟨_, rfl, _, rfl, a, C, rfl, T, no, .inl ⟨ea, fun d hd ne => q d hd ne⟩⟩
theorem binds_two (t : InitText st) (F : FunD K "__init__" qual (defArgs st) (defBody st) (defScope st) [V.non] [] fI fd) : Binds K fd ["self", "value"] [] := by
  obtain ⟨p1, p2, p3, q1, q2, q3, q4, e1, e2, e3⟩ := t
  rw [e1, e2, e3] at F
  obtain ⟨ds, r, b⟩ := F.binds1 (ps := ["self", "value"]) 2 1 (by simp) rfl fun T kV doc pm an cdv ct us its l1 l2 => match us, l1, its, l2 with
    | [_, _], _, [_], _ => ⟨_, rfl, rfl⟩
  cases r
  exact b
theorem binds_one (t : InitText st) (F : FunD K "__init__" qual (defArgs st) (defBody st) (defScope st) [V.non] [] fI fd) : ∃ ds, Vals [V.non] ds ∧ Binds K fd ["self", "value"] ds := by
  obtain ⟨p1, p2, p3, q1, q2, q3, q4, e1, e2, e3⟩ := t
  rw [e1, e2, e3] at F
  obtain ⟨ds, r, b⟩ := F.binds1 (ps := ["self", "value"]) 1 0 (by simp) rfl fun T kV doc pm an cdv ct us its l1 l2 => match us, l1, its, l2 with
    | [_], _, [_], _ => ⟨_, rfl, rfl⟩
  exact ⟨ds, r, b⟩
theorem binds_kw (t : InitText st) (F : FunD K "__init__" qual (defArgs st) (defBody st) (defScope st) [V.non] [] fI fd) : KBn K fd ["self", "value"] 1 ["value"] (fun us ws => us ++ ws) (fun vs zs => vs ++ zs) := by
  obtain ⟨p1, p2, p3, q1, q2, q3, q4, e1, e2, e3⟩ := t
  rw [e1, e2, e3] at F
  obtain ⟨its, b⟩ := F.kbindsD (ps := ["self", "value"]) 1 ["value"] (fun us _ ws => us ++ ws) (by simp) (fun r1 _ r3 => r1.append r3) fun T kV doc pm an cdv ct us its ws l1 l2 l3 => match us, l1, its, l2, ws, l3 with
    | [_], _, [_], _, [_], _ => ⟨_, rfl, rfl⟩
  exact ⟨b.to, b.rel⟩
/-- a made error: at a, of the class at C, value in its field -/
def Made (H : Hp) (a C : Addr) (v : V) : Prop := ∃ d, a ≠ d ∧ H a = some (exo a C (some d)) ∧ H d = some (exd d [("value", v)])
theorem Made.same {H H' : Hp} {a C : Addr} {v : V} (m : Made H a C v) (s : Same H H') : Made H' a C v := by
  obtain ⟨d, ne, e1, e2⟩ := m
  exact ⟨d, ne, s _ _ e1, s _ _ e2⟩
end
theorem made_same {H1 : Hp} {a d C : Addr} {v : V} (ha : H1 a = none) (hd : upd H1 a (exo a C none) d = none) (ne : d ≠ a) : Same H1 (upd (upd (upd H1 a (exo a C none)) d (exd d [("value", v)])) a (exo a C (some d))) ∧ Made (upd (upd (upd H1 a (exo a C none)) d (exd d [("value", v)])) a (exo a C (some d))) a C v := by
  have hd1 : H1 d = none := by
    rw [upd_ne ne] at hd
    exact hd
  refine ⟨fun b o q => ?_, d, ne.symm, upd_same, ?_⟩
  · rw [upd_ne (ne_of_none q ha), upd_ne (ne_of_none q hd1), upd_ne (ne_of_none q ha)]
    exact q
  · rw [upd_ne ne, upd_same]
/-- what making an error asks, by what is wanted of it -/
theorem init_read {K : PySem.W.Frag} {C : Addr} {H1 : Hp} {v : V} {Q : VK} (T : OexC K C) (noV : PySem.W.findIn K (.ref C) "value" = some none) (h : ∀ a H2, Same H1 H2 → H1 a = none → Made H2 a C v → Q (.ref a) H2) :
    ∀ a, H1 a = none → spInit K [.ref a, v] (upd H1 a (exo a C none)) (fun v H2 => v = .non ∧ Q (.ref a) H2) (fun _ _ _ => False) := fun a ha =>
  ⟨a, C, v, rfl, T, noV, upd_same, fun d hd ne => ⟨rfl, h a _ (made_same ha hd ne).1 ha (made_same ha hd ne).2⟩⟩
/-- the rules at hand for one class -/
structure ErrUse (P : Program) (w : World) (K : PySem.W.Frag) (mg : Str → Option Value) (base : Heap) (name : Str) (C : Addr) : Prop where
  g : mg name = some (.ref C)
  T : OexC K C
  xf : XfC K C
  noV : PySem.W.findIn K (.ref C) "value" = some none
  er : ErrC K C
  eq : PySem.W.findIn K (.ref C) "__eq__" = some (some (.builtin "object.__eq__"))
  ok : ∃ (fI : Addr) (fd : FuncData) (ds : List Value), PySem.W.findIn K (.ref C) "__init__" = some (some (.ref fI)) ∧ PySem.W.typeIn K (.ref fI) = some (.type "function") ∧ FnOk P w K mg base CX0 1 fI fd ["self", "value"] (spInit K) ∧
    Binds K fd ["self", "value"] [] ∧ Vals [V.non] ds ∧ Binds K fd ["self", "value"] ds ∧ KBn K fd ["self", "value"] 1 ["value"] (fun us ws => us ++ ws) (fun vs zs => vs ++ zs)
theorem ErrAt.use {P : Program} {w : World} {K : PySem.W.Frag} {mg : Str → Option Value} {base : Heap} {name qual : Str} {st : Stmt} {C : Addr} (E : ErrAt K mg name qual st C) (t : InitText st) : ErrUse P w K mg base name C := by
  obtain ⟨fI, fd, iC, tI, F⟩ := E.init
  obtain ⟨ds, r, b⟩ := binds_one t F
  exact ⟨E.g, E.T, E.xf, E.noV, E.er, E.eq, fI, fd, ds, iC, tI, ok_init t F, binds_two t F, r, b, binds_kw t F⟩
theorem pe_ref {X : Cx} {x : Str} {C : Addr} {pos : Pos} (hg : Gl X x) (hm : X.mg x = some (.ref C)) (hd : (x == ("__debug__" : Str)) = false := by decide) : PE X (.Name x pos) (tC (.ref C)) := pe_glob (v := .ref C) hg hm rfl hd
theorem if_ne {x y : V} {A B : Prop} (h : x ≠ y) (b : B) : if decide (x = y) = true then A else B := by
  rw [decide_eq_false h]
  exact iteF b
theorem if_eq {x y : V} {A B : Prop} (h : x = y) (b : A) : if decide (x = y) = true then A else B := by
  rw [decide_eq_true h]
  exact iteT b
theorem it2 : InitText (sInit 2) := ⟨_, _, _, _, _, _, _, rfl, rfl, rfl⟩
theorem it3 : InitText (sInit 3) := ⟨_, _, _, _, _, _, _, rfl, rfl, rfl⟩
theorem it4 : InitText (sInit 4) := ⟨_, _, _, _, _, _, _, rfl, rfl, rfl⟩
end DQ

set_option Elab.async false
set_option linter.all false
set_option maxRecDepth 100000
set_option maxHeartbeats 400000
namespace DQ
open PySem PySem.Spec PyProof.Rows L2
/-- an error of the class at C goes out, v its value, all else as it was -/
def Throws (E : XK) (C : Addr) (v : V) (H : Hp) : Prop := ∀ (d : Addr) (H' : Hp), Same H H' → H d = none → H' d = some (.xd [("value", v)]) → E (.ref C) (some d) H'
theorem throw_read {K : PySem.W.Frag} {C : Addr} {H1 : Hp} {v : V} {Q : XK} (T : OexC K C) (noV : PySem.W.findIn K (.ref C) "value" = some none) (h : Throws Q C v H1) :
    ∀ a, H1 a = none → spInit K [.ref a, v] (upd H1 a (exo a C none)) (fun v H2 => v = .non ∧ ∃ (d : Addr) (fs : List (Str × V)), H2 a = some (exo a C (some d)) ∧ H2 d = some (exd d fs) ∧ H1 d = none ∧ Q (.ref C) (some d) (upd (del H2 a) d (.xd fs))) (fun _ _ _ => False) := fun a ha =>
  ⟨a, C, v, rfl, T, noV, upd_same, fun d hd ne => by
    have hd1 : H1 d = none := by
      rw [upd_ne ne] at hd
      exact hd
    refine ⟨rfl, d, _, upd_same, by rw [upd_ne ne, upd_same], hd1, h d _ (fun b o q => ?_) hd1 upd_same⟩
    have nb : b ≠ a := ne_of_none q ha
    have nd : b ≠ d := ne_of_none q hd1
    rw [upd_ne nd, del_ne nb, upd_ne nb, upd_ne nd, upd_ne nb]
    exact q⟩
end DQ

set_option Elab.async false
set_option linter.all false
set_option maxRecDepth 100000
set_option maxHeartbeats 2000000
namespace DQ
open PySem PySem.Spec PyProof.Rows L2
/-! ### the end of a law whose def was shown for calls around which no guard is -/
section
variable {P : Program} {w : World} {K : PySem.W.Frag} {mg nb : Str → Option Value} {j : Nat} {law scr : Addr} {code : FuncData} {par : Str} {asks : Sp} {t : Shared} {its : List Value} {nums : List Int}
/-- the script may be the only thing that is tracked -/
structure Bare (K : PySem.W.Frag) (scr : Addr) (H : Hp) : Prop where
  only : Only H
  self : ∀ b, H b ≠ none → b = scr
  out : H scr ≠ none → K.lookup scr = none
theorem bare_none {H : Hp} (X : Bare K scr H) {b : Addr} {o : Obj} {es : Array DictEntry} {n : Nat} (hs : t.heap.get? scr = some { cls := .type "list", data := .seq its.toArray }) (e : t.heap.get? b = some o) (d : o.data = .dict es n) : H b = none := Classical.byContradiction fun z => by
  have q := X.self b z
  rw [q, hs] at e
  cases e
  exact nomatch d
theorem ends_with (H : Hp) (X : Bare K scr H) (inK : K.In t.heap) (names : t.heap.Ns mainGlobals mg) (bns : t.heap.Ns builtinsNs nb) (boot : ∀ y : Str, y ≠ "__name__" → nb y = bootBuiltins y) (free : t.heap.NoLimit) (noGen : t.gens = #[])
    (hs : t.heap.get? scr = some { cls := .type "list", data := .seq its.toArray }) (room : Room j callerA) (F : ∀ base : Heap, K.In base → base.Ns mainGlobals mg → FnG P w K mg base CX0 j law code [par] asks) (bind : ∀ (s : Shared) (u : Value), BindsTo s code ⟨[u], []⟩ [(par, u)])
    (ok : HOk P w H t.heap) (ask : asks [.ref scr] H (fun v _ => v = .bl true) fun _ _ _ => False) :
    codeAny (model P w) callerA (.call (.ref law) ⟨[.ref scr], []⟩) (fun r u => r = .ok (.ret (.bool true)) ∧ OldK t.heap u.heap ∧ u.os = t.os ∧ AllBare u.gens) t := by
  have kept : ∀ {b : Addr} {m : Str → Option Value}, t.heap.Ns b m → (hidT t.heap H).Ns b m := fun {b m} z => by
    obtain ⟨o, es, n, e, d, r⟩ := z
    exact ⟨o, es, n, hidT_get e (bare_none X hs e d), d, r⟩
  have inK' : K.In (hidT t.heap H) := fun b o e => by
    refine hidT_get (inK b o e) (Classical.byContradiction fun z => ?_)
    have q := X.self b z
    rw [q] at e z
    rw [X.out z] at e
    exact nomatch e
  have mod : Mod K mg (hidT t.heap H) := by
    obtain ⟨mc, l1, l2⟩ := free
    exact ⟨inK', kept names, ⟨nb, kept bns, boot⟩, ⟨mc, kept l1, l2⟩⟩
  have start : Env0 P w K mg (hidT t.heap H) callerA [] t H := ⟨rfl, mod, fun b o => of_hidT, Nat.le_of_eq (hidT_size _ _), trivial, fun b z => absurd (show b ∈ ([] : List Addr) from z) List.not_mem_nil, ok, .of_eq noGen⟩
  have run := (F _ inK' (kept names)).run callerA [] t H ⟨[.ref scr], []⟩ [.ref scr] [.ref scr] _ _ room rfl start (bind t (.ref scr)) (.cons rfl .nil) ask
  refine codeAny_mono run fun r u z => ?_
  match r, z with
  | .error _, z => exact False.elim z
  | .ok .next, z => exact False.elim z
  | .ok .brk, z => exact False.elim z
  | .ok .cont, z => exact False.elim z
  | .ok (.ret y), z =>
    obtain ⟨v, H', os, bare, un, ok', rv, q⟩ := z
    have q : v = .bl true := q
    rw [q] at rv
    obtain rfl : y = Value.bool true := rv
    refine ⟨rfl, OldK.of_keep fun b o e => ?_, os, bare⟩
    cases z : H b with
    | none => exact un.keep b o e z (fun m => absurd (show b ∈ ([] : List Addr) from m) List.not_mem_nil) List.not_mem_nil
    | some f =>
      rcases X.only b with n | ⟨ob, xs, n⟩
      · rw [n] at z
        cases z
      · obtain ⟨e1, _⟩ := ok b _ n
        obtain ⟨e2, _⟩ := ok' b _ (un.frzs b ob _ n)
        rw [e] at e1
        cases e1
        exact e2
theorem ends_of (inK : K.In t.heap) (names : t.heap.Ns mainGlobals mg) (bns : t.heap.Ns builtinsNs nb) (boot : ∀ y : Str, y ≠ "__name__" → nb y = bootBuiltins y) (free : t.heap.NoLimit) (noGen : t.gens = #[])
    (hs : t.heap.get? scr = some { cls := .type "list", data := .seq its.toArray }) (hi : IntsAre its nums) (len : nums.length ≤ sizeLine) (room : Room j callerA) (F : ∀ base : Heap, K.In base → base.Ns mainGlobals mg → FnG P w K mg base CX0 j law code [par] asks)
    (bind : ∀ (s : Shared) (u : Value), BindsTo s code ⟨[u], []⟩ [(par, u)]) (ask : ∀ H : Hp, Only H → SqL K H scr (nums.map V.int) → asks [.ref scr] H (fun v _ => v = .bl true) fun _ _ _ => False) :
    codeAny (model P w) callerA (.call (.ref law) ⟨[.ref scr], []⟩) (fun r u => r = .ok (.ret (.bool true)) ∧ OldK t.heap u.heap ∧ u.os = t.os ∧ AllBare u.gens) t := by
  have rel := vals_ints hi
  have sz := hi.length
  by_cases own : K.lookup scr = none
  · let H : Hp := fun b => if b = scr then some (.frz { cls := .type "list", data := .seq its.toArray } (.lst (nums.map V.int))) else none
    have at0 : H scr = some (.frz { cls := .type "list", data := .seq its.toArray } (.lst (nums.map V.int))) := if_pos rfl
    have off : ∀ b, b ≠ scr → H b = none := fun b n => if_neg n
    have X : Bare K scr H := ⟨fun b => by
      by_cases e : b = scr
      · exact .inr ⟨_, _, by rw [e]; exact at0⟩
      · exact .inl (off b e), fun b n => Classical.byContradiction fun e => n (off b e), fun _ => own⟩
    refine ends_with H X inK names bns boot free noGen hs room F bind (fun b u z => ?_) (ask H X.only (.inl (.inr ⟨_, at0⟩)))
    by_cases e : b = scr
    · rw [e, at0] at z
      cases z
      rw [e]
      exact ⟨hs, by rw [List.length_map]; exact len, its, _, rel, hs⟩
    · rw [off b e] at z
      cases z
  · obtain ⟨o, ho⟩ : ∃ o, K.lookup scr = some o := by
      cases e : K.lookup scr with
      | none => exact absurd e own
      | some o => exact ⟨o, rfl⟩
    have e := inK scr o ho
    rw [hs] at e
    cases e
    have X : Bare K scr (fun _ => none) := ⟨fun _ => .inl rfl, fun b n => absurd rfl n, fun n => absurd rfl n⟩
    exact ends_with _ X inK names bns boot free noGen hs room F bind (fun b u z => nomatch z) (ask _ X.only (.inr ⟨_, its.toArray, _, ho, rfl, rfl, rfl, by rw [List.size_toArray, sz]; exact len, by simpa using rel⟩))
end
theorem walkG {l : PySem.W.OpenLaw} {n j : Nat} {q : Program} {loose : List Str} {XP : (Str → Option Value) → Heap → Prop} {YP : World → Heap → Prop} {d : DefRec} {K : Params → PySem.W.Frag} {asks : PySem.W.Frag → Sp} {par : Str}
    (hn : l.most = some n) (small : n ≤ sizeLine) (hdf : d.params.defaults = []) (room : Room j callerA) (inK : ∀ (w : World) (h : Heap), YP w h → (K w.params).In h)
    (F : ∀ (w : World) (mg : Str → Option Value) (law : Addr) (h : Heap), (K w.params).In h → h.Ns mainGlobals mg → mg d.name = some (.ref law) →
      ∃ code : FuncData, (∀ (s : Shared) (u : Value), BindsTo s code ⟨[u], []⟩ [(par, u)]) ∧ ∀ base : Heap, (K w.params).In base → base.Ns mainGlobals mg → FnG l.prog w (K w.params) mg base CX0 j law code [par] (asks (K w.params)))
    (ask : ∀ (K : PySem.W.Frag) (H : Hp) (scr : Addr) (nums : List Int), nums.length ≤ n → Only H → SqL K H scr (nums.map V.int) → asks K [.ref scr] H (fun v _ => v = .bl true) fun _ _ _ => False) :
    PySem.W.WalkO q loose XP YP l.row.toRowW d [] (fun f vs => PySem.call f vs) := by
  refine Att.attach_call hn hdf fun w s₀ t mg nb law o pm cd doc scr its nums G Y ho hd hcd hmg hs hints len noGen => ?_
  obtain ⟨code, bind, hF⟩ := F w mg law _ (inK w _ Y) G.T.g hmg
  exact ends_of (inK w _ Y) G.T.g G.T.b G.T.builtins G.T.nolimit noGen hs hints (Nat.le_trans len small) room hF bind fun H => ask _ H scr nums len
end DQ

set_option Elab.async false
set_option linter.all false
set_option maxRecDepth 100000
set_option maxHeartbeats 2000000
namespace DQ
open PySem PySem.Spec PyProof.Rows L2
/-! ### what the top has left: defs, constants -/
/-- a def of the top, by its facts -/
structure DefAt (K : PySem.W.Frag) (mg : Str → Option Value) (x : Str) (st : Stmt) (f : Addr) (fd : FuncData) : Prop where
  g : mg x = some (.ref f)
  F : Fun K x x st f fd
theorem def_mk {K : PySem.W.Frag} {h : Heap} {mg : Str → Option Value} {x : Str} {st : Stmt} {f : Addr} {oc kV doc pm cdv ct : Value} {od an : Option Addr} {osl : Array (Option Value)} (X : K.In h) (G : h.Ns mainGlobals mg) (a : PySem.W.nsIn K mainGlobals x = some (some (.ref f)))
    (l : K.lookup f = some ⟨oc, od, .func (PySem.W.fnOf x x (defArgs st) (defBody st) (defScope st) .none kV doc pm an cdv ct), osl⟩) (c : PySem.W.codeIn K cdv x = true) (k : PySem.W.keepIn K (.ref f) = true) : ∃ fd, DefAt K mg x st f fd :=
  ⟨_, PySem.W.mg_of X G a, fun_mk (st := st) l c k⟩
section
variable {K : PySem.W.Frag} {h : Heap} {mg : Str → Option Value}
theorem str_mk {x z v : Str} {t : Tok} (X : K.In h) (G : h.Ns mainGlobals mg) (a : PySem.W.nsIn K mainGlobals x = some (some (.str v t))) (e : v = z) : ∃ t, mg x = some (.str z t) := ⟨t, by rw [← e]; exact PySem.W.mg_of X G a⟩
theorem int_mk {x : Str} {z v : Int} {t : Tok} (X : K.In h) (G : h.Ns mainGlobals mg) (a : PySem.W.nsIn K mainGlobals x = some (some (.int v t))) (e : v = z) : ∃ t, mg x = some (.int z t) := ⟨t, by rw [← e]; exact PySem.W.mg_of X G a⟩
theorem rel_abs {u : Value} {x : V} (h : absV u = some x) : RelV x u := by
  cases u with
  | none => cases h; rfl
  | bool b => cases h; rfl
  | int i t => cases h; exact ⟨t, rfl⟩
  | str s t => cases h; exact ⟨t, rfl⟩
  | ref a => cases h; rfl
  | _ => first | cases h; rfl | (cases h; exact ⟨_, rfl⟩) | exact nomatch h
theorem vals_abs : ∀ {us : List Value} {xs : List V}, us.map absV = xs.map some → Vals xs us
  | [], [], _ => .nil
  | [], _ :: _, h => nomatch h
  | _ :: _, [], h => nomatch h
  | u :: us, x :: xs, h => by
    rw [List.map_cons, List.map_cons] at h
    injection h with h1 h2
    exact .cons (rel_abs h1) (vals_abs h2)
theorem tup_mk {x : Str} {r : Addr} {o : Obj} {its : Array Value} {n : Nat} {xs : List V} (X : K.In h) (G : h.Ns mainGlobals mg) (a : PySem.W.nsIn K mainGlobals x = some (some (.ref r))) (l : K.lookup r = some o) (c : o.cls = .type "tuple") (d : o.data = .seq its n) (z : its.size ≤ 1000) (e : its.toList.map absV = xs.map some) :
    ∃ r, mg x = some (.ref r) ∧ ∀ H, SqT K H r xs := ⟨r, PySem.W.mg_of X G a, fun H => .inr ⟨o, its, n, l, c, d, Nat.le_trans z (by decide), vals_abs e⟩⟩
end
end DQ

set_option Elab.async false
set_option linter.all false
set_option maxRecDepth 100000
set_option maxHeartbeats 2000000
namespace DQ
open PySem PySem.Spec PyProof.Rows L2
/-! ### what the top has left: classes of errors -/
section
variable {K : PySem.W.Frag} {h : Heap} {mg : Str → Option Value}
theorem cls_mk {C N : Addr} {nm q : Str} {bs bm : List Value} {sn : List Str} {sub : List Value} {ab : Bool} {col : Option Bool} {dd : Option Addr} {m0 m1 m2 m3 m5 : Option Value}
    (xL : K.lookup C = some (excClassObj nm q C N bs bm true sn sub ab col dd m0 m1 m2 m3 m5 "ValueError.__new__")) (rv : PySem.HandSPX.refsVE bm = true) (sa : PySem.W.findIn K (.ref C) "__setattr__" = some (some (.builtin "object.__setattr__")))
    (eC : PySem.W.subIn K (.ref C) (.type "BaseException") = some true) (tC : PySem.W.typeIn K (.ref C) = some (.type "type")) (kC : PySem.W.keepIn K (.ref C) = true)
    (ga : PySem.W.findIn K (.ref C) "__getattribute__" = some (some (.builtin "BaseException.__getattribute__"))) (gg : PySem.W.findIn K (.ref C) "__getattr__" = some none)
    (ca : PySem.W.findIn K (.ref C) "__class__" = some (some (.builtin "object.__class__"))) (cg : PySem.W.specialIn K (.builtin "object.__class__") "__get__" = some (some (.builtin "getset_descriptor.__get__"))) (ct : PySem.W.takesIn K (.builtin "object.__class__") = some true)
    (mo : PySem.W.mroIn K C (.type "object") = some true) : OexC K C ∧ ErrC K C :=
  ⟨⟨⟨nm, q, N, bs, bm, sn, sub, ab, col, dd, m0, m1, m2, m3, m5, xL, rv⟩, sa, eC, tC, kC⟩, ⟨by unfold PySem.W.clsIn; rw [xL]; rfl, ga, gg, eC, ca, cg, ct, mo⟩⟩
theorem err_mk {name qual : Str} {st : Stmt} {C fI T : Addr} {oT : Obj} {n : Nat} {oc kV doc pm cdv ct' : Value} {od an : Option Addr} {osl : Array (Option Value)} (X : K.In h) (G : h.Ns mainGlobals mg) (a : PySem.W.nsIn K mainGlobals name = some (some (.ref C))) (c : OexC K C ∧ ErrC K C)
    (hd : PySem.W.hasDictIn K C = true) (nv : PySem.W.findIn K (.ref C) "value" = some none) (eq : PySem.W.findIn K (.ref C) "__eq__" = some (some (.builtin "object.__eq__")))
    (ic : PySem.W.findIn K (.ref C) "__init__" = some (some (.ref fI))) (ti : PySem.W.typeIn K (.ref fI) = some (.type "function"))
    (lf : K.lookup fI = some ⟨oc, od, .func (PySem.W.fnOf "__init__" qual (defArgs st) (defBody st) (defScope st) (.ref T) kV doc pm an cdv ct'), osl⟩) (cf : PySem.W.codeIn K cdv qual = true) (kf : PySem.W.keepIn K (.ref fI) = true)
    (lT : K.lookup T = some oT) (dT : oT.data = .seq #[.none] n) : ErrAt K mg name qual st C :=
  ⟨PySem.W.mg_of X G a, c.1, ⟨c.2.ga, c.2.gg, c.2.sub, hd⟩, nv, c.2, eq, fI, _, ic, ti, ⟨⟨oc, od, _, kV, doc, pm, an, cdv, ct', osl, rfl, lf, cf, .inr ⟨by simp, T, oT, [.none], n, rfl, lT, dT, .cons rfl .nil⟩, .inl rfl⟩, kf⟩⟩
end
end DQ

set_option Elab.async false
set_option linter.all false
set_option maxRecDepth 100000
set_option maxHeartbeats 1000000
namespace DQ
open PySem PySem.Spec PyProof.Rows L2
/-! ### check_signs, check_lists -/
abbrev sSigns : Stmt := topS 26
abbrev sLists : Stmt := topS 27
theorem scSigns : FnScope ["marks", "columns"] ["marks", "columns"] (defScope sSigns) := ⟨rfl, rfl, rfl, by decide +kernel, rfl, by decide +kernel, by decide +kernel⟩
theorem scLists : FnScope ["marks", "columns", "items", "facts"] ["marks", "columns", "items", "facts"] (defScope sLists) := ⟨rfl, rfl, rfl, by decide +kernel, rfl, by decide +kernel, by decide +kernel⟩
section
variable {P : Program} {w : World} {K : PySem.W.Frag} {mg : Str → Option Value} {base : Heap}
/-- what is asked of marks and columns, and what then follows -/
def AsksSigns (K : PySem.W.Frag) (C : Addr) (vm vc : V) (dm dc : PyData) (H : Hp) (E : XK) (go : Hp → Prop) : Prop :=
  Dp K H vm dm ∧ Fits dm ∧ Lays dm ∧ (wordsD 4 dm = false → ∀ H', Same H H' → Throws E C vm H') ∧
  (wordsD 4 dm = true → Dp K H vc dc ∧ Fits dc ∧ Lays dc ∧ (columnsD (texts (listD dm)) dc = false → ∀ H', Same H H' → Throws E C vc H') ∧ (columnsD (texts (listD dm)) dc = true → ∀ H', Same H H' → go H'))
def spSigns (K : PySem.W.Frag) (C : Addr) : Sp := fun vs H Q E => ∃ (vm vc : V) (dm dc : PyData), vs = [vm, vc] ∧ AsksSigns K C vm vc dm dc H E (Q .non)
theorem ok_signs {f f1 f2 C : Addr} {fd d1 d2 : FuncData} (F : Fun K "check_signs" "check_signs" sSigns f fd)
    (G1 : FnOk P w K mg base CX0 4 f1 d1 ["value"] (spMarks K 4)) (b1 : Binds K d1 ["value"] []) (k1 : PySem.W.keepIn K (.ref f1) = true) (m1 : mg "are_marks" = some (.ref f1))
    (G2 : FnOk P w K mg base CX0 4 f2 d2 ["marks", "value"] (spColumns K)) (b2 : Binds K d2 ["marks", "value"] []) (k2 : PySem.W.keepIn K (.ref f2) = true) (m2 : mg "are_columns" = some (.ref f2))
    (U : ErrUse P w K mg base "InvalidList" C) : FnOk P w K mg base (L2.CX P w) 5 f fd ["marks", "columns"] (spSigns K C) := by
  obtain ⟨fI, fdI, ds, iC, tI, oI, bI, _, _, _⟩ := U.ok
  refine F.okX scSigns (fun vs H Q E h => ?_) (fun cdv A outer s H vs Q E hr h => ?_)
  · obtain ⟨_, _, _, _, rfl, _⟩ := h
    rfl
  obtain ⟨vm, vc, dm, dc, rfl, hm, fm, lm, no, h⟩ := h
  refine ⟨_, pss_cons (ps_if (pt_not (pt_val (pe_call G1 (hr.mono (by decide)) rfl m1 k1 b1 .nil pass0 (pa_cons (pv 0) pa_nil)))) (pss_one (ps_raise rfl (takes_of rfl rfl rfl rfl) (pmk_oex U.T iC tI oI (hr.mono (by decide)) bI .nil pass0 (by rfl) U.g (pa_cons (pv 0) pa_nil)))) pss_nil)
    (pss_one (ps_if (pt_not (pt_val (pe_call G2 (hr.mono (by decide)) rfl m2 k2 b2 .nil pass0 (pa_cons (pv 0) (pa_cons (pv 1) pa_nil))))) (pss_one (ps_raise rfl (takes_of rfl rfl rfl rfl) (pmk_oex U.T iC tI oI (hr.mono (by decide)) bI .nil pass0 (by rfl) U.g (pa_cons (pv 1) pa_nil)))) pss_nil)), ?_⟩
  refine ⟨_, rfl, vm, dm, rfl, hm, fm, fun H1 s1 => ⟨_, rfl, ite2 (fun c => ?_) fun c => ?_⟩⟩
  · exact ⟨_, rfl, (show 1 ≤ 1000 by decide), throw_read U.T U.noV (no (by simpa using c) H1 s1)⟩
  have c : wordsD 4 dm = true := by simpa using c
  obtain ⟨hc, fc, lc, no2, go⟩ := h c
  obtain ⟨l1, rfl, w1⟩ := wordsD_list c
  cases hm with
  | @lst ma x1 _ hma a1 =>
  obtain ⟨e1, n1⟩ := texts_all a1 w1
  rw [e1] at hma
  refine ⟨_, rfl, _, rfl, ma, texts l1, vc, dc, rfl, L2.Same.seq s1 hma, dp_same s1 _ _ hc, fc, fun H2 s2 => ⟨_, rfl, ite2 (fun c2 => ?_) fun c2 => ?_⟩⟩
  · exact ⟨_, rfl, (show 1 ≤ 1000 by decide), throw_read U.T U.noV (no2 (by simpa [listD] using c2) H2 (s1.trans s2))⟩
  · exact go (by simpa [listD] using c2) H2 (s1.trans s2)
end
end DQ

set_option Elab.async false
set_option linter.all false
set_option maxRecDepth 100000
set_option maxHeartbeats 1000000
namespace DQ
open PySem PySem.Spec PyProof.Rows L2
section
variable {P : Program} {w : World} {K : PySem.W.Frag} {mg : Str → Option Value} {base : Heap}
theorem AsksSigns.mono {C : Addr} {vm vc : V} {dm dc : PyData} {H : Hp} {E E' : XK} {go go' : Hp → Prop} (h : AsksSigns K C vm vc dm dc H E go) (e : ∀ v H', Same H H' → Throws E C v H' → Throws E' C v H') (g : ∀ H', Same H H' → go H' → go' H') : AsksSigns K C vm vc dm dc H E' go' := by
  obtain ⟨h1, h2, h3, h4, h5⟩ := h
  refine ⟨h1, h2, h3, fun z H' s => e _ _ s (h4 z H' s), fun z => ?_⟩
  obtain ⟨k1, k2, k3, k4, k5⟩ := h5 z
  exact ⟨k1, k2, k3, fun y H' s => e _ _ s (k4 y H' s), fun y H' s => g _ s (k5 y H' s)⟩
/-- what is asked of the items and the facts beside, and what then follows -/
def AsksRest (K : PySem.W.Frag) (C : Addr) (vi vf : V) (di df : PyData) (H : Hp) (E : XK) (go : Hp → Prop) : Prop :=
  Dp K H vi di ∧ Fits di ∧ (numsD di = false → ∀ H', Same H H' → Throws E C vi H') ∧ (numsD di = true → Dp K H vf df ∧ (isT "list" df = false → ∀ H', Same H H' → Throws E C vf H') ∧ (isT "list" df = true → ∀ H', Same H H' → go H'))
def spLists (K : PySem.W.Frag) (C : Addr) : Sp := fun vs H Q E => ∃ (vm vc vi vf : V) (dm dc di df : PyData), vs = [vm, vc, vi, vf] ∧ AsksSigns K C vm vc dm dc H E (fun H1 => AsksRest K C vi vf di df H1 E (Q .non))
theorem ok_lists {f f1 f2 C : Addr} {fd d1 d2 : FuncData} (F : Fun K "check_lists" "check_lists" sLists f fd)
    (G1 : FnOk P w K mg base (L2.CX P w) 5 f1 d1 ["marks", "columns"] (spSigns K C)) (b1 : Binds K d1 ["marks", "columns"] []) (k1 : PySem.W.keepIn K (.ref f1) = true) (m1 : mg "check_signs" = some (.ref f1))
    (G2 : FnOk P w K mg base CX0 4 f2 d2 ["value"] (spNumbers K)) (b2 : Binds K d2 ["value"] []) (k2 : PySem.W.keepIn K (.ref f2) = true) (m2 : mg "are_numbers" = some (.ref f2))
    (U : ErrUse P w K mg base "InvalidList" C) (mI : mg "isinstance" = none) (mT : mg "list" = none) : FnOk P w K mg base (L2.CX P w) 6 f fd ["marks", "columns", "items", "facts"] (spLists K C) := by
  obtain ⟨fI, fdI, ds, iC, tI, oI, bI, _, _, _⟩ := U.ok
  refine F.okX scLists (fun vs H Q E h => ?_) (fun cdv A outer s H vs Q E hr h => ?_)
  · obtain ⟨_, _, _, _, _, _, _, _, rfl, _⟩ := h
    rfl
  obtain ⟨vm, vc, vi, vf, dm, dc, di, df, rfl, h⟩ := h
  refine ⟨_, pss_cons (ps_expr (pe_callS G1 hr rfl m1 k1 b1 (fun σ => passAt (takes_of rfl rfl rfl rfl) σ) (pa_cons (pv 0) (pa_cons (pv 1) pa_nil))))
    (pss_cons (ps_if (pt_not (pt_val (pe_call G2 (hr.mono (by decide)) rfl m2 k2 b2 .nil pass0 (pa_cons (pv 2) pa_nil)))) (pss_one (ps_raise rfl (takes_of rfl rfl rfl rfl) (pmk_oex U.T iC tI oI (hr.mono (by decide)) bI .nil pass0 (by rfl) U.g (pa_cons (pv 2) pa_nil)))) pss_nil)
    (pss_one (ps_if (pt_not (pt_val (pe_callB call_isi (by rfl) mI (by decide +kernel) (pa_cons (pv 3) (pa_cons (pe_bltn (v := .ty "list") (by rfl) mT (by decide +kernel) rfl) pa_nil))))) (pss_one (ps_raise rfl (takes_of rfl rfl rfl rfl) (pmk_oex U.T iC tI oI (hr.mono (by decide)) bI .nil pass0 (by rfl) U.g (pa_cons (pv 3) pa_nil)))) pss_nil))), ?_⟩
  refine ⟨_, rfl, _, rfl, vm, vc, dm, dc, rfl, h.mono (fun v H' s t => t) fun H1 s1 r => ?_⟩
  obtain ⟨hi, fi, no, h⟩ := r
  refine ⟨_, rfl, vi, di, rfl, hi, fi, fun H2 s2 => ⟨_, rfl, ite2 (fun c => ?_) fun c => ?_⟩⟩
  · exact ⟨_, rfl, (show 1 ≤ 1000 by decide), throw_read U.T U.noV (no (by simpa using c) H2 s2)⟩
  obtain ⟨hf, no2, go⟩ := h (by simpa using c)
  refine ⟨_, rfl, vf, .ty "list", _, _, _, rfl, .ty "list", dp_ty (dp_same s2 _ _ hf), kit_data (by simp) df, _, rfl, ite2 (fun c2 => ?_) fun c2 => ?_⟩
  · exact ⟨_, rfl, (show 1 ≤ 1000 by decide), throw_read U.T U.noV (no2 (by simpa using c2) H2 s2)⟩
  · exact go (by simpa using c2) H2 s2
end
end DQ

set_option Elab.async false
set_option linter.all false
set_option maxRecDepth 100000
set_option maxHeartbeats 2000000
namespace DQ
open PySem PySem.Spec PyProof.Rows L2
/-! ### store_of -/
abbrev sMake : Stmt := topS 28
abbrev NMk : List Str := ["marks", "columns", "items", "facts", "item", "known", "fact", "clash"]
theorem scMake : FnScope NMk ["marks", "columns", "items", "facts"] (defScope sMake) := ⟨rfl, rfl, rfl, by decide +kernel, rfl, by decide +kernel, by decide +kernel⟩
def Fact.kyM : Fact → List Key
  | .mark m i => [.inr "mark", .inr m, .inl i]
  | .link c a b => [.inr "link", .inr c, .inl a, .inl b]
theorem key_v (x : Fact) : x.v = x.kyM.map kV := by cases x <;> rfl
def factK : List Key → Fact
  | [_, .inr m, .inl i] => .mark m i
  | [_, .inr c, .inl a, .inl b] => .link c a b
  | _ => .mark "" 0
theorem factK_key (x : Fact) : factK x.kyM = x := by cases x <;> rfl
theorem enc_key (a : Addr) (x : Fact) : encM (a, x.kyM) = x.d := by cases x <;> rfl
theorem key_inj {x y : Fact} (h : x.kyM = y.kyM) : x = y := by rw [← factK_key x, h, factK_key]
/-- what a list of facts asks of the rest -/
inductive MakeAsk (CT CF : Addr) (ms cs : List Str) (ns : List Int) (xs : List V) (ds : List PyData) (H : Hp) (Q : VK) (E : XK) : Prop
  | many (h : 2000 < (onces ns).length) (e : ∀ H', Same H H' → Throws E CT (.int ((onces ns).length : Nat)) H')
  | wrong (h : (onces ns).length ≤ 2000) (k : Nat) (v : V) (d : PyData) (hv : xs[k]? = some v) (hd : ds[k]? = some d) (ok : ∀ j, j < k → ∀ d', ds[j]? = some d' → isFactD ms cs ns d' = true) (no : isFactD ms cs ns d = false) (e : ∀ H', Same H H' → Throws E CF v H')
  | twice (h : (onces ns).length ≤ 2000) (ok : ∀ d ∈ ds, isFactD ms cs ns d = true) (fs : List Fact) (ed : ds = fs.map Fact.d) (tp : Tups H xs (fs.map Fact.v)) (lay : ∀ x ∈ fs, PyData.canLay0 (.str x.word) = true) (cl : ¬ NoClash fs)
      (e : ∀ i y v H', Same H H' → fs[i]? = some y → xs[i]? = some v → NoClash (fs.take i) → (∃ x ∈ fs.take i, clashes x y = true) → Throws E CF v H')
  | made (h : (onces ns).length ≤ 2000) (ok : ∀ d ∈ ds, isFactD ms cs ns d = true) (fs : List Fact) (ed : ds = fs.map Fact.d) (tp : Tups H xs (fs.map Fact.v)) (lay : ∀ x ∈ fs, PyData.canLay0 (.str x.word) = true) (nc : NoClash fs) (D : List Fact) (hD : ∀ x ∈ fs, x ∈ D) (few : D.length < 64)
      (q : ∀ gs v H', gs.Nodup → (∀ x, x ∈ gs ↔ x ∈ fs) → Same H H' → NewSto H H' v ⟨ms, cs, sortI (onces ns), sortF gs⟩ → Q v H')
def spMake (K : PySem.W.Frag) (C CT CF : Addr) : Sp := fun vs H Q E => ∃ (vm vc vi vf : V) (dm dc di df : PyData), vs = [vm, vc, vi, vf] ∧ AsksSigns K C vm vc dm dc H E (fun H1 => AsksRest K C vi vf di df H1 E (fun H2 =>
  ∃ (ma ca ia fa : Addr) (ms cs : List Str) (ns : List Int) (xs : List V) (ds : List PyData), vm = .ref ma ∧ vc = .ref ca ∧ vi = .ref ia ∧ vf = .ref fa ∧ SqL K H2 ma (ms.map V.str) ∧ SqL K H2 ca (cs.map V.str) ∧ SeqAt.shaped (.list (ms.map PyData.str)) = true ∧ SeqAt.shaped (.list (cs.map PyData.str)) = true ∧
    SqL K H2 ia (ns.map V.int) ∧ ns.length ≤ 10000 ∧ SqL K H2 fa xs ∧ DpAll K H2 xs ds ∧ ds.length ≤ 10000 ∧ (∀ d ∈ ds, Parts d) ∧ ms.length ≤ 1000 ∧ cs.length ≤ 1000 ∧ MakeAsk CT CF ms cs ns xs ds H2 Q E))
section
variable {P : Program} {w : World} {K : PySem.W.Frag} {mg : Str → Option Value} {base : Heap}
theorem kd_of {H : Hp} : ∀ {xs : List V} {fs : List Fact}, Tups H xs (fs.map Fact.v) → ∃ ks : List Kd, xs = ks.map (fun p => V.ref p.1) ∧ ks.map (·.2) = fs.map Fact.kyM ∧ ∀ p ∈ ks, H p.1 = some (.tup (p.2.map kV))
  | [], [], _ => ⟨[], rfl, rfl, fun p hp => (by cases hp)⟩
  | x :: xs, [], h => (by cases h)
  | [], y :: fs, h => (by cases h)
  | x :: xs, y :: fs, h => by
    cases h with
    | cons a r =>
      obtain ⟨b, rfl, hb⟩ := a
      obtain ⟨ks, h1, h2, h3⟩ := kd_of r
      refine ⟨(b, y.kyM) :: ks, by rw [List.map_cons, ← h1], by rw [List.map_cons, List.map_cons, h2], fun p hp => ?_⟩
      rcases List.mem_cons.mp hp with e | hp
      · rw [e, ← key_v]; exact hb
      · exact h3 p hp
/-- a sorted set of facts, as facts -/
theorem sort_keys {L1 : List Kd} (h : ∀ p ∈ L1, ∃ x : Fact, p.2 = x.kyM) : (L1.mergeSort (PySem.W.dataLe false encM)).map (fun p => factK p.2) = sortF (L1.map fun p => factK p.2) :=
  List.map_mergeSort fun a ha b hb => by
    obtain ⟨x, ex⟩ := h a ha
    obtain ⟨y, ey⟩ := h b hb
    have e1 : encM a = (factK a.2).d := by rw [ex, factK_key]; exact (by rw [← enc_key a.1 x, ← ex])
    have e2 : encM b = (factK b.2).d := by rw [ey, factK_key]; exact (by rw [← enc_key b.1 y, ← ey])
    rw [PySem.W.dataLe_eq, PySem.W.dataLe_eq]
    simp only [e1, e2]
theorem kd_tups {H : Hp} : ∀ {l : List Kd}, (∀ p ∈ l, ∃ x : Fact, p.2 = x.kyM) → (∀ p ∈ l, H p.1 = some (.tup (p.2.map kV))) → Tups H (l.map fun p => V.ref p.1) ((l.map fun p => factK p.2).map Fact.v)
  | [], _, _ => .nil
  | p :: l, h, g => .cons ⟨p.1, rfl, by
      obtain ⟨x, e⟩ := h p List.mem_cons_self
      show H p.1 = some (.tup (factK p.2).v)
      rw [e, factK_key, key_v, ← e]; exact g p List.mem_cons_self⟩ (kd_tups (fun q hq => h q (List.mem_cons_of_mem _ hq)) fun q hq => g q (List.mem_cons_of_mem _ hq))
theorem ok_make {f f1 f2 f3 C CT CF : Addr} {fd d1 d2 d3 : FuncData} {t1 : Tok} (F : Fun K "store_of" "store_of" sMake f fd)
    (G1 : FnOk P w K mg base (L2.CX P w) 6 f1 d1 ["marks", "columns", "items", "facts"] (spLists K C)) (b1 : Binds K d1 ["marks", "columns", "items", "facts"] []) (k1 : PySem.W.keepIn K (.ref f1) = true) (m1 : mg "check_lists" = some (.ref f1))
    (G2 : FnOk P w K mg base CX0 4 f2 d2 ["marks", "columns", "known", "value"] (spIsFact K)) (b2 : Binds K d2 ["marks", "columns", "known", "value"] []) (k2 : PySem.W.keepIn K (.ref f2) = true) (m2 : mg "is_fact" = some (.ref f2))
    (G3 : FnOk P w K mg base CX0 1 f3 d3 ["facts"] (spClash K)) (b3 : Binds K d3 ["facts"] []) (k3 : PySem.W.keepIn K (.ref f3) = true) (m3 : mg "first_clash" = some (.ref f3))
    (UT : ErrUse P w K mg base "TooMany" CT) (UF : ErrUse P w K mg base "InvalidFact" CF) (mM : mg "MOST_ITEMS" = some (.int 2000 t1)) (mLen : mg "len" = none) (mList : mg "list" = none) (mSet : mg "set" = none) (mSorted : mg "sorted" = none) : FnOk P w K mg base (L2.CX P w) 7 f fd ["marks", "columns", "items", "facts"] (spMake K C CT CF) := by
  obtain ⟨fIT, fdIT, dsT, iCT, tIT, oIT, bIT, _, _, _⟩ := UT.ok
  obtain ⟨fIF, fdIF, dsF, iCF, tIF, oIF, bIF, _, _, _⟩ := UF.ok
  refine F.okX scMake (fun vs H Q E h => ?_) (fun cdv A outer s H vs Q E hr h => ?_)
  · obtain ⟨_, _, _, _, _, _, _, _, rfl, _⟩ := h
    rfl
  obtain ⟨vm, vc, vi, vf, dm, dc, di, df, rfl, h⟩ := h
  have nd := scMake.nd
  refine ⟨_, (pss_cons (ps_expr (pe_callS G1 (hr.mono (by decide)) rfl m1 k1 b1 (fun σ => passAt (takes_of rfl rfl rfl rfl) σ) (pa_cons (pv 0) (pa_cons (pv 1) (pa_cons (pv 2) (pa_cons (pv 3) pa_nil))))))
    (pss_cons (ps_setDc (i := 5) (own := [("item", 4)]) (g := gName 4) (tt := tYes) rfl nd rfl rfl (dc_used rfl rfl rfl (by rfl)) (pi_list (pv 2)) (blkOk_by (own := [("item", 4)]) (N := NMk) (sc := defScope sMake) (by decide +kernel)) ⟨fun _ _ _ _ _ => pg_name (i := 4) nd rfl (Or.inl rfl), fun _ _ _ _ _ => pts_nil, fun _ _ _ _ _ => pv 4, fun _ _ _ _ _ => pe_bl⟩)
    (pss_cons (ps_if (pt_cmpR op_gt (pe_callB cr_lenD (by rfl) mLen PySem.boot_len (pa_cons (pv 5) pa_nil)) (pe_glob (v := .int 2000) (by rfl) mM ⟨_, rfl⟩) (nomark _)) (pss_one (ps_raise rfl (takes_of rfl rfl rfl rfl) (pmk_oex UT.T iCT tIT oIT (hr.mono (by decide)) bIT .nil pass0 (by rfl) UT.g (pa_cons (pe_callB cr_lenD (by rfl) mLen PySem.boot_len (pa_cons (pv 5) pa_nil)) pa_nil)))) pss_nil)
    (pss_cons (ps_for (passes_of rfl) rfl (pi_list (pv 3)) (pg_name (i := 6) nd rfl (.inl rfl)) (pss_one (ps_if (pt_not (pt_val (pe_call G2 (hr.mono (by decide)) rfl m2 k2 b2 .nil pass0 (pa_cons (pv 0) (pa_cons (pv 1) (pa_cons (pv 5) (pa_cons (pv 6) pa_nil))))))) (pss_one (ps_raise rfl (takes_of rfl rfl rfl rfl) (pmk_oex UF.T iCF tIF oIF (hr.mono (by decide)) bIF .nil pass0 (by rfl) UF.g (pa_cons (pv 6) pa_nil)))) pss_nil)))
    (pss_cons (ps_set (i := 7) nd rfl (.inl rfl) (pe_call G3 (hr.mono (by decide)) rfl m3 k3 b3 .nil pass0 (pa_cons (pv 3) pa_nil)))
    (pss_cons (ps_if (pt_cmpR op_notN (pv 7) pe_non (nomark _)) (pss_one (ps_raise rfl (takes_of rfl rfl rfl rfl) (pmk_oex UF.T iCF tIF oIF (hr.mono (by decide)) bIF .nil pass0 (by rfl) UF.g (pa_cons (pv 7) pa_nil)))) pss_nil)
    (pss_one (ps_ret (pe_tup (pa_cons pe_str (pa_cons (pe_callTy call_list_of (by rfl) mList (by decide +kernel) (pa_cons (pv 0) pa_nil)) (pa_cons (pe_callTy call_list_of (by rfl) mList (by decide +kernel) (pa_cons (pv 1) pa_nil)) (pa_cons (pe_callB (cr_sortD0 rfl hr.units) (by rfl) mSorted (by decide +kernel) (pa_cons (pv 5) pa_nil)) (pa_cons (pe_callB (r := rSortM P w) (cr_sortM rfl hr.units) (by rfl) mSorted (by decide +kernel) (pa_cons (pe_callTy (r := rSetM P w K) (cr_setM rfl hr.units) (by rfl) mSet (by decide +kernel) (pa_cons (pv 3) pa_nil)) pa_nil)) pa_nil)))))))))))))), ?_⟩
  refine ⟨_, rfl, _, rfl, _, rfl, _, rfl, vm, vc, vi, vf, dm, dc, di, df, rfl, h.mono (fun v H' s t => t) fun H1 s1 r => ?_⟩
  obtain ⟨hi, fi, no, r⟩ := r
  refine ⟨hi, fi, no, fun c => ?_⟩
  obtain ⟨hf, no2, go⟩ := r c
  refine ⟨hf, no2, fun c2 H2 s2 => ?_⟩
  obtain ⟨ma, ca, ia, fa, ms, cs, ns, xs, ds, rfl, rfl, rfl, rfl, hma, hca, shM, shC, hia, fewN, hfa, hds, fewD, parts, fm, fc, ask⟩ := go c2 H2 s2
  clear go no2 no hf hi fi c c2
  refine ⟨_, rfl, ia, rfl, ⟨_, hia⟩, fun kd nkd => dc_onces hia fewN nkd (fun _ => rfl) (fun _ _ _ q => ⟨_, rfl, q⟩) fun H3 s3 kn => ?_⟩
  have s23 := s3
  have sh := fun H' (s : Same H3 H') => s3.trans s
  refine ⟨_, rfl, kd, onces ns, rfl, kn, _, _, rfl, rfl, _, rfl, ite2 (fun c => ?_) fun c => ?_⟩
  · -- too many
    have c : 2000 < (onces ns).length := by have c := of_decide_eq_true (by simpa using c : decide ((2000 : Int) < ((onces ns).length : Nat)) = true); omega
    refine ⟨_, rfl, kd, onces ns, rfl, kn, (show 1 ≤ 1000 by decide), throw_read UT.T UT.noV ?_⟩
    cases ask with
    | many h e => exact e H3 s3
    | wrong h => omega
    | twice h => omega
    | made h => omega
  have few : (onces ns).length ≤ 2000 := by have c : ¬ (2000 : Int) < ((onces ns).length : Nat) := by simpa using c
                                            omega
  have kAt : KnownAt H3 kd ns := by
    obtain ⟨kvs, ek, hk⟩ := kn
    exact ⟨kvs, ek, fun i => by rw [val_keys hk, decide_eq_decide]; exact (onces_facts _ ns rfl).2.1 i⟩
  have lds := dpAll_len hds
  refine ⟨_, rfl, fa, rfl, ⟨_, L2.Same.seq s3 hfa⟩, for_list (K := K) (a := fa) (xs := xs) (fun k σ J => ∃ y6, σ = [some (.ref ma), some (.ref ca), some (.ref ia), some (.ref fa), none, some (.ref kd), y6, none] ∧ Same H3 J ∧ ∀ j, j < k → ∀ d', ds[j]? = some d' → isFactD ms cs ns d' = true)
    ⟨none, rfl, fun _ _ h => h, fun _ h => absurd h (Nat.not_lt_zero _)⟩ (fun k σ J _ hP => ?_) (fun k x σ J hx hP => ?_) fun σ J hP => ?_⟩
  · obtain ⟨y6, rfl, sJ, _⟩ := hP
    exact L2.Same.seq (s3.trans sJ) hfa
  · obtain ⟨y6, rfl, sJ, al⟩ := hP
    obtain ⟨d, hd, hx'⟩ := dpAll_at hds hx
    have s2J := s3.trans sJ
    have kJ : KnownAt J kd ns := by
      obtain ⟨kvs, ek, hk⟩ := kAt
      exact ⟨kvs, sJ _ _ ek, hk⟩
    refine ⟨_, rfl, _, rfl, _, rfl, _, rfl, ma, ca, kd, ms, cs, ns, x, d, rfl, L2.Same.seq s2J hma, L2.Same.seq s2J hca, shM, shC, kJ, dp_same s2J _ _ hx', parts d (List.mem_of_getElem? hd), fun J2 sJ2 => ⟨_, rfl, ite2 (fun c => ?_) fun c => ?_⟩⟩
    · have c : isFactD ms cs ns d = false := by simpa using c
      refine ⟨_, rfl, (show 1 ≤ 1000 by decide), throw_read UF.T UF.noV ?_⟩
      cases ask with
      | many h e => omega
      | wrong h k0 v0 d0 hv hd0 ok0 no0 e =>
        have ek : k0 = k := by
          rcases Nat.lt_trichotomy k0 k with z | z | z
          · have q1 := al k0 z d0 hd0
            rw [no0] at q1; cases q1
          · exact z
          · have q1 := ok0 k z d hd
            rw [c] at q1; cases q1
        subst ek
        rw [hx] at hv
        injection hv with hv
        subst hv
        exact e J2 (s2J.trans sJ2)
      | twice h ok0 => rw [ok0 d (List.mem_of_getElem? hd)] at c; cases c
      | made h ok0 => rw [ok0 d (List.mem_of_getElem? hd)] at c; cases c
    · have c : isFactD ms cs ns d = true := by simpa using c
      refine ⟨_, rfl, sJ.trans sJ2, fun j hj d' hd' => ?_⟩
      rcases Nat.lt_or_ge j k with z | z
      · exact al j z d' hd'
      · obtain rfl : j = k := by omega
        rw [hd] at hd'
        injection hd' with hd'
        rw [← hd']; exact c
  obtain ⟨y6, rfl, sJ, al⟩ := hP
  have s2J := s3.trans sJ
  cases ask with
  | many h e => omega
  | wrong h k0 v0 d0 hv hd0 ok0 no0 e =>
    have q1 := al k0 (List.getElem?_eq_some_iff.mp hv).1 d0 hd0
    rw [no0] at q1; cases q1
  | twice h ok0 fs ed tp lay cl e =>
    refine ⟨_, rfl, fa, xs, fs, rfl, L2.Same.seq s2J hfa, tp.keep (tk_same s2J), lay, by rw [ed, List.length_map] at fewD; exact fewD, fun J2 sJ2 noC => absurd noC cl, fun i y v J2 sJ2 hi hv noC cl => ?_⟩
    obtain ⟨a, _, rfl, _⟩ := Tups.get tp hv
    refine ⟨_, rfl, rfl, _, rfl, ite2 (fun _ => ?_) fun c => by simp at c⟩
    exact ⟨_, rfl, (show 1 ≤ 1000 by decide), throw_read UF.T UF.noV (e i y _ J2 (s2J.trans sJ2) hi hv noC cl)⟩
  | made h ok0 fs ed tp lay nc D hD fewD2 q =>
    refine ⟨_, rfl, fa, xs, fs, rfl, L2.Same.seq s2J hfa, tp.keep (tk_same s2J), lay, by rw [ed, List.length_map] at fewD; exact fewD, fun J2 sJ2 noC => ?_, fun i y v J2 sJ2 hi hv noC ⟨x, hx, cx⟩ => (by rw [nc x (List.mem_of_mem_take hx) y (List.mem_of_getElem? hi)] at cx; cases cx)⟩
    have s02 := s2J.trans sJ2
    refine ⟨_, rfl, rfl, _, rfl, ite2 (fun c => by simp at c) fun _ => ?_⟩
    refine ⟨_, rfl, ma, _, rfl, .inl (L2.Same.seq s02 hma), fun pm npm => ?_⟩
    have g1 := same_new npm (o := .lst (ms.map V.str))
    have f1 : L2.upd J2 pm (.lst (ms.map V.str)) pm = some (.lst (ms.map V.str)) := upd_same
    generalize L2.upd J2 pm (.lst (ms.map V.str)) = J3 at g1 f1 ⊢
    refine ⟨_, rfl, ca, _, rfl, .inl (L2.Same.seq (s02.trans g1) hca), fun pc npc => ?_⟩
    have g2 := same_new npc (o := .lst (cs.map V.str))
    have f2 : L2.upd J3 pc (.lst (cs.map V.str)) pc = some (.lst (cs.map V.str)) := upd_same
    generalize L2.upd J3 pc (.lst (cs.map V.str)) = J4 at g2 f2 ⊢
    have kn4 : KeysAt J4 kd (onces ns) := by
      obtain ⟨kvs, ek, hk⟩ := kn
      exact ⟨kvs, g2 _ _ (g1 _ _ (sJ2 _ _ (sJ _ _ ek))), hk⟩
    refine ⟨_, rfl, kd, onces ns, rfl, kn4, by omega, fun pi npi => ?_⟩
    have g3 := same_new npi (o := .lst ((sortI (onces ns)).map V.int))
    have f3 : L2.upd J4 pi (.lst ((sortI (onces ns)).map V.int)) pi = some (.lst ((sortI (onces ns)).map V.int)) := upd_same
    generalize L2.upd J4 pi (.lst ((sortI (onces ns)).map V.int)) = J5 at g3 f3 ⊢
    have s05 := ((s02.trans g1).trans g2).trans g3
    obtain ⟨ks, kx, kf, kt⟩ := kd_of (tp.keep (tk_same s05))
    have kin : ∀ p ∈ ks, ∃ x ∈ fs, p.2 = x.kyM := fun p hp => by
      have z : p.2 ∈ ks.map (·.2) := List.mem_map.mpr ⟨p, hp, rfl⟩
      rw [kf] at z
      obtain ⟨x, hx, e⟩ := List.mem_map.mp z
      exact ⟨x, hx, e.symm⟩
    refine ⟨_, rfl, fa, ks, D.map Fact.kyM, rfl, by rw [← kx]; exact L2.Same.seq s05 hfa, kt, fun p hp => ?_, by rw [List.length_map]; exact fewD2, fun sa L nsa ndL subL allL => ?_⟩
    · obtain ⟨x, hx, e⟩ := kin p hp
      rw [e]; exact List.mem_map.mpr ⟨x, hD x hx, rfl⟩
    have g4 := same_new nsa (o := SetO P w sa L)
    have f4 : L2.upd J5 sa (SetO P w sa L) sa = some (SetO P w sa L) := upd_same
    generalize L2.upd J5 sa (SetO P w sa L) = J6 at g4 f4 ⊢
    have encs : ∀ p ∈ L, ∃ x ∈ fs, encM p = x.d := fun p hp => by
      obtain ⟨x, hx, e⟩ := kin p (subL p hp)
      exact ⟨x, hx, by rw [← enc_key p.1 x, ← e]⟩
    refine ⟨sa, L, rfl, f4, fun p hp => g4 _ _ (kt p (subL p hp)), fun d hd d' hd' => ?_, .inl fun d hd => ?_, fun L1 pf pL npf => ?_⟩
    · obtain ⟨p, hp, rfl⟩ := List.mem_map.mp hd
      obtain ⟨r, hr, rfl⟩ := List.mem_map.mp hd'
      obtain ⟨x, _, e1⟩ := encs p hp
      obtain ⟨y, _, e2⟩ := encs r hr
      rw [e1, e2]; exact fact_alike _ _
    · obtain ⟨p, hp, rfl⟩ := List.mem_map.mp hd
      obtain ⟨x, _, e1⟩ := encs p hp
      rw [e1]; exact fact_tuple _
    have g5 := same_new npf (o := .lst ((L1.mergeSort (PySem.W.dataLe false encM)).map fun p => V.ref p.1))
    have f5 : L2.upd J6 pf (.lst ((L1.mergeSort (PySem.W.dataLe false encM)).map fun p => V.ref p.1)) pf = some (.lst ((L1.mergeSort (PySem.W.dataLe false encM)).map fun p => V.ref p.1)) := upd_same
    generalize L2.upd J6 pf (.lst ((L1.mergeSort (PySem.W.dataLe false encM)).map fun p => V.ref p.1)) = J7 at g5 f5 ⊢
    refine nil_read ⟨by show 5 ≤ sizeLine; decide, fun T nT => ?_⟩
    have g6 := same_new nT (o := .tup [.str "store", .ref pm, .ref pc, .ref pi, .ref pf])
    have f6 : L2.upd J7 T (.tup [V.str "store", .ref pm, .ref pc, .ref pi, .ref pf]) T = some (.tup [V.str "store", .ref pm, .ref pc, .ref pi, .ref pf]) := upd_same
    generalize L2.upd J7 T (.tup [V.str "store", .ref pm, .ref pc, .ref pi, .ref pf]) = J8 at g6 f6 ⊢
    have inL : ∀ p ∈ L1, ∃ x ∈ fs, p.2 = x.kyM := fun p hp => kin p (subL p (pL.mem_iff.mp hp))
    have inL' : ∀ p ∈ L1, ∃ x : Fact, p.2 = x.kyM := fun p hp => let ⟨x, _, e⟩ := inL p hp; ⟨x, e⟩
    have pS := List.mergeSort_perm L1 (PySem.W.dataLe false encM)
    have s58 := ((g4.trans g5).trans g6)
    have tpS := kd_tups (H := J8) (l := L1.mergeSort (PySem.W.dataLe false encM)) (fun p hp => inL' p (pS.mem_iff.mp hp)) fun p hp => s58 _ _ (kt p (subL p (pL.mem_iff.mp (pS.mem_iff.mp hp))))
    rw [sort_keys inL'] at tpS
    refine q (L1.map fun p => factK p.2) (.ref T) J8 ?_ (fun x => ⟨fun hx => ?_, fun hx => ?_⟩) ((s05.trans g4).trans (g5.trans g6)) ?_
    · refine List.pairwise_map.mpr (List.Pairwise.imp_of_mem (fun {p r} hp hr ne e => ?_) (List.pairwise_map.mp ((pL.map (·.2)).nodup_iff.mpr ndL)))
      obtain ⟨x, e1⟩ := inL' p hp
      obtain ⟨y, e2⟩ := inL' r hr
      rw [e1, e2, factK_key, factK_key] at e
      exact ne (by rw [e1, e2, e])
    · obtain ⟨p, hp, rfl⟩ := List.mem_map.mp hx
      obtain ⟨y, hy, e1⟩ := inL p hp
      rw [e1, factK_key]; exact hy
    · have z : x.kyM ∈ ks.map (·.2) := by rw [kf]; exact List.mem_map.mpr ⟨x, hx, rfl⟩
      obtain ⟨p, hp, e⟩ := List.mem_map.mp z
      obtain ⟨r, hr, e2⟩ := List.mem_map.mp (allL p hp)
      exact List.mem_map.mpr ⟨r, pL.mem_iff.mpr hr, by rw [e2, e, factK_key]⟩
    · have e12 := g2 _ _ f1
      have e123 := g3 _ _ e12
      have e23 := g3 _ _ f2
      have m4 := g4 _ _ e123
      have c4 := g4 _ _ e23
      have i4 := g4 _ _ f3
      exact ⟨T, pm, pc, pi, pf, _, rfl, f6, g6 _ _ (g5 _ _ m4), g6 _ _ (g5 _ _ c4), g6 _ _ (g5 _ _ i4), g6 _ _ f5, tpS, ((s05.trans g4).trans g5).free nT, s02.free npm, (s02.trans g1).free npc, ((s02.trans g1).trans g2).free npi, (s05.trans g4).free npf,
        ne_of_none f1 npc, ne_of_none e12 npi, ne_of_none m4 npf, ne_of_none f2 npi, ne_of_none c4 npf, ne_of_none i4 npf⟩
end
end DQ

set_option Elab.async false
set_option linter.all false
set_option maxRecDepth 100000
set_option maxHeartbeats 1000000
namespace DQ
open PySem PySem.Spec PyProof.Rows L2
/-! ### try: body, except x as n: suite, where the error outlives the suite -/
/-- an error that was raised and caught stands at a -/
def exq (a : Addr) (cls : Value) (d : Option Addr) : HO := .ext fun h => ∃ (oe : Obj) (vs : Array Value), h.get? a = some oe ∧ Zc cls d oe ∧ oe.data = .fields vs
theorem exq_ok {P : Program} {w : World} {H : Hp} {h : Heap} {a : Addr} {cls : Value} {d : Option Addr} {oe : Obj} {vs : Array Value} (e : h.get? a = some oe) (z : Zc cls d oe) (hd : oe.data = .fields vs) : ObjOk P w H h a (exq a cls d) :=
  ⟨⟨oe, vs, e, z, hd⟩, ⟨oe, e⟩, fun h1 h2 ⟨o, v, e1, z1, d1⟩ k => ⟨o, v, k _ e1, z1, d1⟩⟩
section
variable {X : Cx} {pins : List (Addr × Obj)} {σ : L2.St} {H : Hp} {s : Shared}
/-- an object that came since the entry is tracked from here on -/
theorem track {a : Addr} {o : HO} {ob : Obj} {vs : Array Value} (I : Inv X pins σ H s) (hob : s.heap.get? a = some ob) (hdt : ob.data = .fields vs) (na : H a = none) (nL : a ≠ X.env.locals) (nP : ∀ p ∈ X.pn ++ pins, p.1 ≠ a)
    (new : ∀ u, X.s_0.heap.get? a = some u → a ∈ X.ex) (ok : ObjOk X.prog X.w (upd H a o) s.heap a o) : Inv X pins σ (upd H a o) s := by
  have nC : ∀ x c, X.env.cells.lookup x = some c → c ≠ a := fun x c e z => by
    obtain ⟨v, o', h1, h2⟩ := I.cell x c e
    rw [z, hob] at h1
    cases h1
    rw [hdt] at h2
    exact nomatch h2
  have ne : ∀ {b : Addr} {u : HO}, H b = some u → b ≠ a := fun {b u} e => ne_of_none e na
  exact { ok := I.ok, os := I.os, bare := I.bare, loc := I.loc, cell := I.cell, len := I.len
          base := { keep := I.base.keep, slot := I.base.slot, there := I.base.there
                    free := fun b u e n hx => by
                      have nb : b ≠ a := fun z => hx (by rw [z]; exact new u (by rw [← z]; exact e))
                      rw [upd_ne nb]
                      exact I.base.free b u e n hx
                    tups := fun b xs e => by
                      have q := I.base.tups b xs e
                      rw [upd_ne (ne q)]
                      exact q
                    frzs := fun b u v e => by
                      have q := I.base.frzs b u v e
                      rw [upd_ne (ne q)]
                      exact q
                    tbls := fun b ps e => by
                      obtain ⟨more, q⟩ := I.base.tbls b ps e
                      exact ⟨more, by rw [upd_ne (ne q)]; exact q⟩ }
          free := by rw [upd_ne (Ne.symm nL)]; exact I.free
          freeC := fun x c e => by rw [upd_ne (nC x c e)]; exact I.freeC x c e
          pin := fun p hp => by
            obtain ⟨h1, h2, h3, h4, h5⟩ := I.pin p hp
            exact ⟨h1, by rw [upd_ne (nP p hp)]; exact h2, h3, h4, h5⟩
          hok := L2.HOk.laidN I.hok (fun _ _ q => q) na ok }
end
/-- what the clause 'except x as n' wishes, the error kept -/
def wKeep (K : PySem.W.Frag) (c : Value) (i : Nat) (ts : Addr → Value → Option Addr → TS) (Wout : WX) (D : Ends) : WX := fun cls d σ H =>
  ∃ b, PySem.W.exmOne K cls c = some b ∧ (b = true → ∀ a, H a = none → ts a cls d { nx := fun σ' H' => D.nx (σ'.set i none) (upd H' a (exq a cls d)), rt := fun v H' => D.rt v (upd H' a (exq a cls d)), bk := fun σ' H' => D.bk (σ'.set i none) (upd H' a (exq a cls d)), ct := fun σ' H' => D.ct (σ'.set i none) (upd H' a (exq a cls d)) } (σ.set i (some (.ref a))) H) ∧
    (b = false → Wout cls d σ H)
end DQ

set_option Elab.async false
set_option linter.all false
set_option maxRecDepth 100000
set_option maxHeartbeats 2000000
namespace DQ
open PySem PySem.Spec PyProof.Rows L2
section
variable {X : Cx} {x n : Str} {c : Value} {i : Nat} {body suite : List Stmt} {b₀ : Stmt} {np pos pos' : Pos} {tb : WX → TS} {ts : Addr → Value → Option Addr → TS} {Wout : WX}
theorem ps_try_keep (hs : X.stack = X.env :: X.outer) (hf : X.env.frame = some X.env.locals) (hN : X.N.Nodup) (hi : X.N[i]? = some n) (hln : X.env.kindOf n = some .local) (hc : Names X x c) (tk : Takes X Wout)
    (hb : ∀ (W : WX) (pn : List (Addr × Obj)) (xe : Value → Shared → Prop), Takes (X.tr pn xe) W → PassesOwn (model X.prog X.w) X.A X.env xe → PSs (X.tr pn xe) body (tb W))
    (hsu : ∀ (a : Addr) (oe : Obj) (cls : Value) (d : Option Addr) (pn : List (Addr × Obj)), Zc cls d oe → (∃ vs, oe.data = .fields vs) → PSs (X.suite a ((a, oe) :: pn)) (b₀ :: suite) (ts a cls d)) :
    PS X (.Try body [.ExceptHandler (some (.Name x np)) (some n) (b₀ :: suite) pos'] [] [] pos) (fun D σ H => tb (wKeep X.K c i ts Wout D) D σ H) := by
  refine ⟨fun pins s σ H D I h => ?_⟩
  have ok := I.ok
  have hfr : X.A.frames = some (X.env :: X.outer) := by rw [ok.frames, hs]
  refine wpAny_Try_except ?_
  refine wpAny_mono ((hb (wKeep X.K c i ts Wout D) (X.pn ++ pins) (fun e s₁ => wpAny (model X.prog X.w) X.A (noteFrame e X.env) (fun _ s₂ => wpAny (model X.prog X.w) X.A (setFlight e none) (fun _ s₃ =>
    wpAny (model X.prog X.w) X.A (handleBy e X.env [.ExceptHandler (some (.Name x np)) (some n) (b₀ :: suite) pos']) (SP X pins D) X.xe s₃) X.xe s₂) X.xe s₁) (fun u s' out => ?_) PassesOwn.looking).run [] s σ H D (I.toTry _) h) (fun f s1 hsp => ?_) (fun e s1 he => he)
  · obtain ⟨a, B, sI, pins', σ', H', cls, d, rfl, J', nb, up, sky, na, os, ag, b, hb1, hyes, hno⟩ := out
    have J : Inv X pins σ' H' sI := J'.ofTry ok
    show wpAny (model X.prog X.w) X.A (noteFrame (.ref a) X.env) _ _ _
    refine Sky.land Zc.steady hfr hf (by rw [← hs]; exact sky) fun h3 fl3 up3 => ?_
    have J3 : Inv X pins σ' H' { s' with heap := h3 } := J.landed nb fl3.1 (up.trans up3) os ag
    obtain ⟨oe3, vs3, he3, hz3, hd3⟩ := fl3.there
    have away : a ∉ frs (X.env :: X.outer) := fun hm => by
      obtain ⟨_, o', e', hnf⟩ := fl3.2.2.1.mem hm
      rw [he3] at e'
      cases e'
      exact hnf _ hd3
    have nL : a ≠ X.env.locals := fun z => away (List.mem_filterMap.mpr ⟨X.env, List.mem_cons_self, by rw [hf, z]⟩)
    have nF : a ∉ X.fs := fun hm => by
      obtain ⟨e, he, q⟩ := List.mem_filterMap.mp hm
      exact away (List.mem_filterMap.mpr ⟨e, List.mem_cons_of_mem _ he, q⟩)
    have fresh : B.get? a = none := fl3.2.1
    have new : ∀ u, X.s_0.heap.get? a = some u → a ∈ X.ex := fun u e => Classical.byContradiction fun hx => by
      obtain ⟨o', e'⟩ := J.base.there a u e hx
      have := nb a o' e' (by show a ∉ frs X.stack; rw [hs]; exact away)
      rw [fresh] at this
      exact nomatch this
    have nP : ∀ p ∈ X.pn ++ pins, p.1 ≠ a := fun p hp z => by
      obtain ⟨h1, _⟩ := J.pin p hp
      have := nb p.1 p.2 h1 (by show p.1 ∉ frs X.stack; rw [hs, z]; exact away)
      rw [z, fresh] at this
      exact nomatch this
    have S3 := J3.suite he3 hd3 na nL nF
    refine wpAny_handleBy_cons (codeAny_handlers_test ?_) (by intro q; cases q)
    have LT : PySem.W.Looks (model X.prog X.w) h3 (typeOf (.ref a)) cls := fun A Q E s k q => wpAny_typeOf_ref (k _ _ he3) (by rw [hz3.1]; exact q)
    have LM := PySem.W.exm_one (M := model X.prog X.w) (J3.kIn) LT hb1
    have test : ∀ {Q : Value → Shared → Prop} {E : Value → Shared → Prop}, Q c { s' with heap := h3 } → wpAny (model X.prog X.w) (X.A.mark (some (.ref a))) (eval (.Name x np) X.env) Q E { s' with heap := h3 } := fun {Q E} q => by
      obtain ⟨hg, hdbg, hm | ⟨hm, hv, hnn⟩⟩ := hc
      · exact ld_glob (X := X.suite a ((a, oe3) :: (X.pn ++ pins))) S3 hg hm q hdbg
      · exact ld_blt (X := X.suite a ((a, oe3) :: (X.pn ++ pins))) S3 hg hm hv q hnn hdbg
    refine test (LM.here ?_)
    cases b with
    | true =>
      refine codeAny_handlers_suite_as ?_
      refine HandSPX.lands_againZ fl3 fun h4 fl4 up4 => ?_
      have J4 : Inv X pins σ' H' { s' with heap := h4 } := J.landed nb fl4.1 ((up.trans up3).trans up4) os ag
      obtain ⟨oe4, vs4, he4, hz4, hd4⟩ := fl4.there
      have S4 := J4.suite he4 hd4 na nL nF
      refine store_ok (X := X.suite a ((a, oe4) :: (X.pn ++ pins))) (v := .ref a) S4 hN hi (.inl hln) rfl (fun s5 S5 => ?_) (.inr hln)
      refine wpAny_mono ((hsu a oe4 cls d (X.pn ++ pins) hz4 ⟨_, hd4⟩).run [] s5 _ H' _ S5 (hyes rfl a na)) (fun f s6 hsp => ?_) (fun _ _ z => False.elim z)
      have kept : ∀ {σ6 : L2.St} {H6 : Hp} {Q : Shared → Prop}, Inv (X.suite a ((a, oe4) :: (X.pn ++ pins))) [] σ6 H6 s6 → (∀ s7, Inv X pins (σ6.set i none) (upd H6 a (exq a cls d)) s7 → Q s7) →
          wpAny (model X.prog X.w) X.A (do bindName X.env n .none; unbindBehindTheSuite X.env n pos') (fun _ s7 => Q s7) X.xe s6 := fun {σ6 H6 Q} S6 hq => by
        obtain ⟨e6, n6, _⟩ := S6.pin (a, oe4) (List.mem_append_left _ List.mem_cons_self)
        exact gone_ok (track (S6.unsuite ok) e6 hd4 n6 nL nP new (exq_ok e6 hz4 hd4)) hN hi hln hq
      cases f with
      | next =>
        obtain ⟨σ6, H6, S6, q6⟩ := hsp
        exact kept S6 fun s7 J7 => ⟨_, _, J7, q6⟩
      | brk =>
        obtain ⟨σ6, H6, S6, q6⟩ := hsp
        exact kept S6 fun s7 J7 => ⟨_, _, J7, q6⟩
      | cont =>
        obtain ⟨σ6, H6, S6, q6⟩ := hsp
        exact kept S6 fun s7 J7 => ⟨_, _, J7, q6⟩
      | ret u =>
        obtain ⟨v6, σ6, H6, S6, r6, q6⟩ := hsp
        exact kept S6 fun s7 J7 => ⟨_, _, _, J7, r6, q6⟩
    | false =>
      show wpAny _ X.A (handleBy (.ref a) X.env []) _ _ _
      refine wpAny_handleBy_nil ?_
      obtain ⟨k1, k2, k3, oe, vs, T, oT, ts', he, hz, hd, h1, hr⟩ := id fl3
      unfold PySem.passOn
      refine wpAny_bind (wpAny_field he hd h1 ?_)
      rw [if_neg (show ¬ ((Value.ref T == Value.none) = true) from by simp)]
      have fin : wpAny (model X.prog X.w) X.A (setFlight (.ref a) X.env.frame) (fun _ s4 => wpAny (model X.prog X.w) X.A (throw (.ref a) : Sem Flow) (SP X pins D) X.xe s4) X.xe { s' with heap := h3 } := by
        rw [hf]
        refine HandSPX.setFlight_upZ fl3 fun h4 hh4 up4 => wpAny_throw (tk _ _ ?_)
        exact ⟨a, B, sI, pins, σ', H', cls, d, rfl, J, nb, (up.trans up3).trans up4, .inr (.inr (by rw [hs]; exact hh4)), na, os, ag, hno rfl⟩
      first
        | exact wpAny_bind (wpAny_pure (wpAny_bind fin))
        | exact wpAny_bind fin
  · cases f with
    | next =>
      obtain ⟨σ', H', J', q⟩ := hsp
      exact wpAny_execs_nil ⟨σ', H', J'.ofTry ok, q⟩
    | brk =>
      obtain ⟨σ', H', J', q⟩ := hsp
      exact ⟨σ', H', J'.ofTry ok, q⟩
    | cont =>
      obtain ⟨σ', H', J', q⟩ := hsp
      exact ⟨σ', H', J'.ofTry ok, q⟩
    | ret u =>
      obtain ⟨v, σ', H', J', r, q⟩ := hsp
      exact ⟨v, σ', H', J'.ofTry ok, r, q⟩
end
end DQ

set_option Elab.async false
set_option linter.all false
set_option maxRecDepth 100000
set_option maxHeartbeats 1000000
namespace DQ
open PySem PySem.Spec PyProof.Rows L2
/-- a caught error of the class at C, its dict at d, v its value -/
def Caught (H : Hp) (a C : Addr) (v : V) : Prop := ∃ d : Addr, a ≠ d ∧ H a = some (exq a (.ref C) (some d)) ∧ H d = some (.xd [("value", v)])
theorem Caught.same {H H' : Hp} {a C : Addr} {v : V} (m : Caught H a C v) (s : Same H H') : Caught H' a C v := by
  obtain ⟨d, ne, e1, e2⟩ := m
  exact ⟨d, ne, s _ _ e1, s _ _ e2⟩
section
variable {X : Cx} {e : Expr} {pos : Pos}
theorem exq_at {P : Program} {w : World} {H : Hp} {h : Heap} {a : Addr} {cls : Value} {d : Option Addr} (ok : HOk P w H h) (ea : H a = some (exq a cls d)) : ∃ (oe : Obj) (vs : Array Value), h.get? a = some oe ∧ Zc cls d oe ∧ oe.data = .fields vs := by
  have x : ObjOk P w H h a (exq a cls d) := ok a _ ea
  exact x.1
theorem caught_inst {P : Program} {w : World} {H : Hp} {h : Heap} {a C : Addr} {v : V} (ok : HOk P w H h) (m : Caught H a C v) : ∃ ox od, PySem.W.InstAt h a ox C (some od) ∧ ∃ (dx : Addr) (mA : Str → Option Value), h.get? dx = some od ∧ h.Ns1 dx mA ∧ ∀ f, RelO (([("value", v)] : List (Str × V)).lookup f) (mA f) := by
  obtain ⟨d, ne, ea, ed⟩ := m
  obtain ⟨oe, vs, ho, hz, hd⟩ := exq_at ok ea
  have hx : ObjOk P w H h d (.xd [("value", v)]) := ok d _ ed
  obtain ⟨mA, hns, hr⟩ := hx
  have hns' := hns
  obtain ⟨od, es, ep, hod, _⟩ := hns'
  exact ⟨oe, od, ⟨ho, hz.1, by unfold PySem.W.notCls; rw [hd] <;> rfl, by rw [hz.2]; exact hod⟩, d, mA, hod, hns, hr⟩
/-- e.value of a caught error -/
def tCaught (K : PySem.W.Frag) (te : TE) : TE := fun σ H Q => te σ H fun x H1 => ∃ (a C : Addr) (v : V), x = .ref a ∧ Caught H1 a C v ∧ XfC K C ∧ PySem.W.findIn K (.ref C) ("value" : Str) = some none ∧ Q v H1
theorem pe_caught {te : TE} (he : PE X e te) (hb : attributeBase e "value" X.env (eval e X.env) = eval e X.env := by rfl) : PE X (.Attribute e "value" pos) (tCaught X.K te) := ⟨fun pins s σ H Q I h => by
  refine attr_of hb (thn (he.run pins s σ H _ I h) fun u s1 h1 => ?_)
  obtain ⟨x, H1, I1, rx, a, C, v, rfl, m, T, hno, q⟩ := h1
  obtain rfl : u = Value.ref a := rx
  obtain ⟨d, ne, ea, ed⟩ := m
  obtain ⟨oe, vs, ho, hz, hd⟩ := exq_at I1.hok ea
  have hx : ObjOk X.prog X.w H1 s1.heap d (.xd [("value", v)]) := I1.hok d _ ed
  obtain ⟨mA, hns, hr⟩ := hx
  obtain ⟨od, hod, hl⟩ := lookIn_ns hns
  have l : List.lookup ("value" : Str) [(("value" : Str), v)] = some v := by simp [List.lookup]
  obtain ⟨u, hu, ru⟩ := RelO.some_of (v := v) (o := mA "value") (by rw [← l]; exact hr "value")
  exact HandSPX.exc_get I1.kIn ⟨ho, hz.1, by unfold PySem.W.notCls; rw [hd] <;> rfl, by rw [hz.2]; exact hod⟩ T.ga T.gg T.exC (PySem.W.findObj_own T.hdC hno rfl (by rw [hl, hu])) (handed_of ru) ⟨v, H1, I1.tok _, ru, q⟩⟩
/-- isinstance(e, c) of a caught error -/
def rCaughtIs (K : PySem.W.Frag) : List V → Hp → VK → Prop := fun xs H Q => ∃ (a C : Addr) (v c : V) (u : Value) (b : Bool), xs = [.ref a, c] ∧ Caught H a C v ∧ ErrC K C ∧ ClsV c u ∧ PySem.W.kitOne K (.ref C) u = some b ∧ Q (.bl b) H
theorem call_caughtIs : CallR X (.builtin "isinstance") (rCaughtIs X.K) := by
  intro pins s σ H xs us Q I r h
  obtain ⟨a, C, v, c, u, b, rfl, m, T, k, e, q⟩ := h
  obtain ⟨u1, u2, rfl, r1, r2⟩ := vals2 r
  obtain rfl : u1 = Value.ref a := r1
  obtain rfl := k.eq r2
  obtain ⟨ox, od, J, _⟩ := caught_inst I.hok m
  exact PySem.W.kia_one (PySem.W.kitx_exc T.cls T.ga T.gg T.sub T.ca T.cg T.ct T.mo) I.kIn J e (fun z => nomatch z) fun tk => ⟨.bl b, H, I.tok tk, rfl, q⟩
end
end DQ

set_option Elab.async false
set_option linter.all false
set_option maxRecDepth 100000
set_option maxHeartbeats 1000000
namespace DQ
open PySem PySem.Spec PyProof.Rows L2
/-! ### repr of any data, empty dicts among it -/
def rReprZ (K : PySem.W.Frag) : List V → Hp → VK → Prop := fun xs H Q => ∃ (v : V) (d : PyData), xs = [v] ∧ Dp K H v d ∧ ShowsZ d ∧ Q (.str d.shown) H
theorem call_reprZ {X : Cx} (hu : X.A.units + 65 < cLine) (hg : X.A.guards = some []) : CallR X (.builtin "repr") (rReprZ X.K) := by
  intro pins s σ H xs us Q I r h
  obtain ⟨v, d, rfl, hd, ⟨sh, dep, sz⟩, q⟩ := h
  cases hd with
  | non => exact call_reprV hu hg pins s σ H _ us Q I r ⟨_, _, rfl, .non, ⟨sh, rfl, dep, sz⟩, q⟩
  | bl b => exact call_reprV hu hg pins s σ H _ us Q I r ⟨_, _, rfl, .bl b, ⟨sh, rfl, dep, sz⟩, q⟩
  | int i => exact call_reprV hu hg pins s σ H _ us Q I r ⟨_, _, rfl, .int i, ⟨sh, rfl, dep, sz⟩, q⟩
  | str x => exact call_reprV hu hg pins s σ H _ us Q I r ⟨_, _, rfl, .str x, ⟨sh, rfl, dep, sz⟩, q⟩
  | tup hs ha => exact call_reprT hu hg pins s σ H _ us Q I r ⟨_, _, rfl, .tup hs ha, ⟨sh, dep, sz⟩, q⟩
  | lst hs ha =>
    rename_i a xs ds
    obtain ⟨u, rfl, ru⟩ := L2.vals1 r
    obtain ⟨as, rd⟩ := Dp.reads I (.list ds) _ _ (.lst hs ha) ru
    obtain rfl : u = Value.ref a := ru
    obtain ⟨its, rv, ⟨o, n, ho, hc, _, hd⟩, _⟩ := I.list hs
    have sz' : (listText (PyData.shownAll ds)).length ≤ sizeLine := by simpa only [PyData.shown] using sz
    obtain ⟨bs, hb, hk⟩ := dpAll_shown I ds _ its ha rv (by simpa only [PyData.showable] using sh) fun t ht => Nat.le_trans (listText_mem_le ht) sz'
    have hna := not_mem_of_deeper rd (by simp only [PyData.depth]; omega) hb
    have dp : PyData.depthAll ds + 1 ≤ 64 := by simpa only [PyData.depth] using dep
    simp only [PyData.shown] at q
    cases its with
    | nil =>
      cases rv
      cases ha
      simp only [PyData.shownAll, listText_nil] at q
      exact call_repr_slot (by omega) ⟨o, ho, hc⟩ F.slot_list_repr.toG (call_list_repr_empty ⟨o, ho, hc⟩ ho hd ⟨_, _, rfl, ⟨.str _, H, I.tok _, ⟨_, rfl⟩, q⟩⟩)
    | cons y ys =>
      refine call_repr_slot (by omega) ⟨o, ho, hc⟩ F.slot_list_repr.toG (call_list_reprK ho hc hd hna (by simpa using hk.length_eq) (fun i z e => hk.item i z (by simpa using e)) hg (fun b _ => Clear.nil b) (by show X.A.units + 1 + _ < _; omega) (fun _ _ e => e) (fun h' u tk k => ⟨_, _, rfl, ?_⟩) sz')
      exact ⟨.str _, H, I.kept fun b o e => k b o e, ⟨u, rfl⟩, q⟩
  | dct hs =>
    obtain ⟨u, rfl, ru⟩ := L2.vals1 r
    obtain rfl : u = Value.ref _ := ru
    obtain ⟨_, hsys, vs, kv, o, es, ep, ho, ex, hd, _, ps, _⟩ := L2.dk_of I.hok hs
    have e0 : vs = [] := by
      cases kv
      rfl
    subst e0
    have e1 : es.toList = [] := List.length_eq_zero_iff.mp (by simpa using PySem.Pairs.length ps)
    simp only [PyData.shown, PyData.shownKv] at q
    refine call_repr_slot (by omega) ⟨o, ho, ex.1⟩ F.slot_dict_repr (call_dict_reprK (as := []) (d := 0) ho ex.1 hd hsys (by simp) (by rw [e1]; exact .nil) hg (fun b _ => Clear.nil b) (by show X.A.units + 1 + _ < _; omega) (fun _ _ e => e) (fun h' u tk k => ⟨_, _, rfl, ?_⟩) (by decide))
    exact ⟨.str _, H, I.kept fun b o e => k b o e, ⟨u, rfl⟩, q⟩
end DQ

set_option Elab.async false
set_option linter.all false
set_option maxRecDepth 100000
set_option maxHeartbeats 2000000
namespace DQ
open PySem PySem.Spec PyProof.Rows L2
/-! ### _law_caught, _law_only -/
abbrev sCaught : Stmt := topS 38
abbrev sOnly : Stmt := topS 39
theorem scCaught : FnScope ["marks", "columns", "items", "facts", "error", "kept", "e", "kinds"] ["marks", "columns", "items", "facts"] (defScope sCaught) := ⟨rfl, rfl, rfl, by decide +kernel, rfl, by decide +kernel, by decide +kernel⟩
theorem scOnly : FnScope ["told", "place", "bad", "at"] ["told", "place", "bad"] (defScope sOnly) := ⟨rfl, rfl, rfl, by decide +kernel, rfl, by decide +kernel, by decide +kernel⟩
theorem iteF' {b : Bool} {T1 T2 : Prop} (h : b = false) (t : T2) : if b = true then T1 else T2 := by rw [h]; exact t
theorem iteT' {b : Bool} {T1 T2 : Prop} (h : b = true) (t : T1) : if b = true then T1 else T2 := by rw [h]; exact t
theorem try_cut {t rest : TS} {D : Ends} {σ : L2.St} {H : Hp} (P : L2.St → Hp → Prop) (h1 : ∀ D' : Ends, (∀ σ' H', P σ' H' → D'.nx σ' H') → t D' σ H) (h2 : ∀ σ' H', P σ' H' → rest D σ' H') : tSeq t rest D σ H := h1 _ h2
theorem c_read {v : V} {σ : L2.St} {H : Hp} {Q : VK} (h : Q v H) : tC v σ H Q := h
def flag3 (C CL CT CF : Addr) : List V := [.bl (decide (C = CL)), .bl (decide (C = CT)), .bl (decide (C = CF))]
/-- the call ends in an error of the class at C with the value bad -/
def EndsIn (K : PySem.W.Frag) (CL CT CF : Addr) (vs : List V) (H : Hp) (C : Addr) (bad : V) : Prop := ∀ (H1 : Hp) (Q : VK) (E : XK), Same H H1 → (∀ H2, Same H1 H2 → Throws E C bad H2) → spMake K CL CT CF vs H1 Q E
theorem EndsIn.same {K : PySem.W.Frag} {CL CT CF : Addr} {vs : List V} {H H' : Hp} {C : Addr} {bad : V} (h : EndsIn K CL CT CF vs H C bad) (s : Same H H') : EndsIn K CL CT CF vs H' C bad := fun H1 Q E s1 t => h H1 Q E (s.trans s1) t
def spCaught (K : PySem.W.Frag) (CL CT CF : Addr) : Sp := fun vs H Q _ => ∃ (vm vc vi vf : V) (dm dc di df : PyData) (C : Addr) (bad : V), vs = [vm, vc, vi, vf] ∧ Dp K H vm dm ∧ Dp K H vc dc ∧ Dp K H vi di ∧ Dp K H vf df ∧ ShowsZ (.list [dm, dc, di, df]) ∧ C ∈ [CL, CT, CF] ∧ EndsIn K CL CT CF [vm, vc, vi, vf] H C bad ∧
  ∀ T L H', Same H H' → H' T = some (.tup [.ref L, bad]) → H' L = some (.lst (flag3 C CL CT CF)) → Q (.ref T) H'
section
variable {P : Program} {w : World} {K : PySem.W.Frag} {mg : Str → Option Value} {base : Heap}
theorem ok_caught {f f1 CL CT CF S : Addr} {fd d1 : FuncData} (F : Fun K "_law_caught" "_law_caught" sCaught f fd)
    (G1 : FnOk P w K mg base (L2.CX P w) 7 f1 d1 ["marks", "columns", "items", "facts"] (spMake K CL CT CF)) (b1 : Binds K d1 ["marks", "columns", "items", "facts"] []) (k1 : PySem.W.keepIn K (.ref f1) = true) (m1 : mg "store_of" = some (.ref f1))
    (UL : ErrUse P w K mg base "InvalidList" CL) (UT : ErrUse P w K mg base "TooMany" CT) (UF : ErrUse P w K mg base "InvalidFact" CF) (mS : mg "StoreError" = some (.ref S))
    (ex : ∀ C ∈ [CL, CT, CF], PySem.W.exmOne K (.ref C) (.ref S) = some true) (kk : ∀ C ∈ [CL, CT, CF], ∀ D ∈ [CL, CT, CF], PySem.W.kitOne K (.ref C) (.ref D) = some (decide (C = D)))
    (mR : mg "repr" = none) (mI : mg "isinstance" = none) : FnG P w K mg base CX0 8 f fd ["marks", "columns", "items", "facts"] (spCaught K CL CT CF) := by
  refine fun_okG F scCaught (fun vs H Q E h => ?_) (fun cdv A outer s H vs Q E hr hG h => ?_)
  · obtain ⟨_, _, _, _, _, _, _, _, _, _, rfl, _⟩ := h
    rfl
  obtain ⟨vm, vc, vi, vf, dm, dc, di, df, C, bad, rfl, hm, hc, hi, hf, sh, inC, ends, q⟩ := h
  have nd := scCaught.nd
  refine ⟨_, pss_cons (ps_par (i := 4) (j := 5) rfl nd rfl rfl (by decide) rfl rfl (pa_cons pe_non (pa_cons (pe_callB (call_reprZ (room65 hr) hG) (by rfl) mR (by decide +kernel) (pa_cons (pe_lst (pa_cons (pv 0) (pa_cons (pv 1) (pa_cons (pv 2) (pa_cons (pv 3) pa_nil))))) pa_nil)) pa_nil)) (by rfl))
    (pss_cons (ps_try_keep (i := 6) (Wout := fun _ _ _ _ => False) (tb := fun W => tDrop _) rfl rfl nd rfl (by rfl) ⟨by rfl, by decide, .inl mS⟩ takes0
      (fun W pn xe tk po => pss_one (ps_expr (pe_callS (E := WE W) G1 (hr.mono (by decide)) rfl m1 k1 b1 (fun σ => passAt tk σ) (pa_cons (pv 0) (pa_cons (pv 1) (pa_cons (pv 2) (pa_cons (pv 3) pa_nil)))))))
      (fun a oe cls d pn z hv => pss_one (ps_set (i := 4) nd rfl (.inl rfl) (pv 6))))
    (pss_cons (ps_if (pt_cmpR op_ne (pe_callB (call_reprZ (room65 hr) hG) (by rfl) mR (by decide +kernel) (pa_cons (pe_lst (pa_cons (pv 0) (pa_cons (pv 1) (pa_cons (pv 2) (pa_cons (pv 3) pa_nil))))) pa_nil)) (pv 5) (nomark _)) (pss_one (ps_ret (pe_tup (pa_cons (pe_lst pa_nil) (pa_cons pe_non pa_nil))))) pss_nil)
    (pss_cons (ps_set (i := 7) nd rfl (.inl rfl) (pe_lst (pa_cons (pe_callB (r := rCaughtIs K) call_caughtIs (by rfl) mI (by decide +kernel) (pa_cons (pv 4) (pa_cons (pe_glob (v := .ref CL) (by rfl) UL.g rfl) pa_nil)))
      (pa_cons (pe_callB (r := rCaughtIs K) call_caughtIs (by rfl) mI (by decide +kernel) (pa_cons (pv 4) (pa_cons (pe_glob (v := .ref CT) (by rfl) UT.g rfl) pa_nil)))
      (pa_cons (pe_callB (r := rCaughtIs K) call_caughtIs (by rfl) mI (by decide +kernel) (pa_cons (pv 4) (pa_cons (pe_glob (v := .ref CF) (by rfl) UF.g rfl) pa_nil))) pa_nil)))))
    (pss_one (ps_ret (pe_tup (pa_cons (pv 7) (pa_cons (pe_ifExp (pt_cmpR op_isN (pv 4) pe_non (nomark _)) pe_non (pe_caught (pv 4))) pa_nil)))))))), ?_⟩
  obtain ⟨er, xf, nv⟩ : ErrC K C ∧ XfC K C ∧ PySem.W.findIn K (.ref C) ("value" : Str) = some none := by
    simp only [List.mem_cons, List.not_mem_nil, or_false] at inC
    rcases inC with rfl | rfl | rfl
    · exact ⟨UL.er, UL.xf, UL.noV⟩
    · exact ⟨UT.er, UT.xf, UT.noV⟩
    · exact ⟨UF.er, UF.xf, UF.noV⟩
  refine ⟨_, rfl, _, rfl, _, rfl, _, rfl, by show 4 ≤ sizeLine; decide, fun p1 n1 => ?_⟩
  have g1 := same_new n1 (o := .lst [vm, vc, vi, vf])
  have f1 : L2.upd H p1 (.lst [vm, vc, vi, vf]) p1 = some (.lst [vm, vc, vi, vf]) := upd_same
  generalize L2.upd H p1 (.lst [vm, vc, vi, vf]) = H1 at g1 f1 ⊢
  have four : ∀ {J : Hp}, Same H J → DpAll K J [vm, vc, vi, vf] [dm, dc, di, df] := fun s => .cons (dp_same s _ _ hm) (.cons (dp_same s _ _ hc) (.cons (dp_same s _ _ hi) (.cons (dp_same s _ _ hf) .nil)))
  refine ⟨.ref p1, .list [dm, dc, di, df], rfl, .lst (SqL.of f1) (four g1), sh, _, _, rfl, ?_⟩
  generalize hz : (PyData.list [dm, dc, di, df]).shown = z
  dsimp only
  refine try_cut (fun σ' H' => ∃ a, σ' = [some vm, some vc, some vi, some vf, some (.ref a), some (.str z), none, none] ∧ Same H H' ∧ Caught H' a C bad) (fun D' hD => ?_) (fun σ' H2 hP => ?_)
  · refine ⟨_, rfl, _, rfl, _, rfl, _, rfl, ends H1 _ _ g1 (fun H2 s2 d H3 s3 nd3 e3 => ⟨true, ex C inC, fun _ a na => ?_, fun h => nomatch h⟩)⟩
    have hne : a ≠ d := fun z => by rw [z, e3] at na; exact nomatch na
    exact ⟨_, rfl, hD _ _ ⟨a, rfl, ((g1.trans s2).trans s3).trans (same_new na), d, hne, upd_same, by rw [upd_ne hne.symm]; exact e3⟩⟩
  obtain ⟨a, rfl, s2, cau⟩ := hP
  refine ⟨_, rfl, _, rfl, _, rfl, _, rfl, by show 4 ≤ sizeLine; decide, fun p3 n3 => ?_⟩
  have g3 := same_new n3 (o := .lst [vm, vc, vi, vf])
  have f3 : L2.upd H2 p3 (.lst [vm, vc, vi, vf]) p3 = some (.lst [vm, vc, vi, vf]) := upd_same
  generalize L2.upd H2 p3 (.lst [vm, vc, vi, vf]) = H3 at g3 f3 ⊢
  have s3 := s2.trans g3
  have cau3 := cau.same g3
  refine ⟨.ref p3, .list [dm, dc, di, df], rfl, .lst (SqL.of f3) (four s3), sh, _, rfl, ?_⟩
  rw [hz]
  refine ⟨rfl, _, rfl, ite2 (fun c => absurd c (by simp)) fun _ => ?_⟩
  have fl : ∀ {D : Addr} {Q : VK}, D ∈ [CL, CT, CF] → Q (.bl (decide (C = D))) H3 → rCaughtIs K [.ref a, .ref D] H3 Q := fun {D Q} hD h => ⟨a, C, bad, .ref D, .ref D, _, rfl, cau3, er, .own D, kk C inC D hD, h⟩
  refine ⟨_, rfl, ?_⟩
  show tCons _ _ _ _ _
  refine c_read ?_
  refine nil_read ?_
  show rCaughtIs K [.ref a, .ref CL] H3 _
  refine fl (D := CL) (by simp) ?_
  refine ⟨_, rfl, ?_⟩
  show tCons _ _ _ _ _
  refine c_read ?_
  refine nil_read ?_
  show rCaughtIs K [.ref a, .ref CT] H3 _
  refine fl (D := CT) (by simp) ?_
  refine ⟨_, rfl, ?_⟩
  show tCons _ _ _ _ _
  refine c_read ?_
  refine nil_read ?_
  show rCaughtIs K [.ref a, .ref CF] H3 _
  refine fl (D := CF) (by simp) ?_
  refine nil_read ⟨by show 3 ≤ sizeLine; decide, fun L nL => ?_⟩
  have g4 := same_new nL (o := .lst (flag3 C CL CT CF))
  have f4 : L2.upd H3 L (.lst (flag3 C CL CT CF)) L = some (.lst (flag3 C CL CT CF)) := upd_same
  generalize hJ : L2.upd H3 L (.lst [V.bl (decide (C = CL)), .bl (decide (C = CT)), .bl (decide (C = CF))]) = H4
  rw [show L2.upd H3 L (.lst (flag3 C CL CT CF)) = H4 from hJ] at g4 f4
  refine ⟨_, rfl, _, rfl, rfl, _, rfl, iteF' (by simp) ⟨_, rfl, a, C, bad, rfl, cau3.same g4, xf, nv, nil_read ⟨by show 2 ≤ sizeLine; decide, fun T nT => ?_⟩⟩⟩
  have g7 := same_new nT (o := .tup [.ref L, bad])
  exact q T L _ ((s3.trans g4).trans g7) upd_same (g7 _ _ f4)
end
end DQ

set_option Elab.async false
set_option linter.all false
set_option maxRecDepth 100000
set_option maxHeartbeats 1000000
namespace DQ
open PySem PySem.Spec PyProof.Rows L2
theorem eq_int (i j : Int) : decide (V.int i = V.int j) = decide (i = j) := by simp
theorem dp_bls {K : PySem.W.Frag} {H : Hp} : ∀ bs : List Bool, DpAll K H (bs.map V.bl) (bs.map PyData.bool)
  | [] => .nil
  | b :: r => .cons (.bl b) (dp_bls r)
def at3 (k : Nat) : List Bool := (List.range 3).map fun i => decide (i = k)
theorem sm_bls (bs : List Bool) (l : bs.length ≤ 10) : Sm 1 10 (.list (bs.map PyData.bool)) := (SmAll.list (k := 0) (n := 0) (m := 10) (smAll fun d hd => by
  obtain ⟨b, _, rfl⟩ := List.mem_map.mp hd
  exact sm_bool b) (by rw [List.length_map]; exact l)).mono (by decide) (by decide)
section
variable {P : Program} {w : World} {K : PySem.W.Frag} {mg : Str → Option Value} {base : Heap}
def spOnly (K : PySem.W.Frag) : Sp := fun vs H Q _ => ∃ (T L : Addr) (x bad : V) (d : PyData) (k : Nat), vs = [.ref T, .int (k : Nat), bad] ∧ H T = some (.tup [.ref L, x]) ∧ H L = some (.lst ((at3 k).map V.bl)) ∧ Dp K H x d ∧ Dp K H bad d ∧ ShowsZ d ∧ ∀ H', Same H H' → Q (.bl true) H'
theorem ok_only {f : Addr} {fd : FuncData} (F : Fun K "_law_only" "_law_only" sOnly f fd) (mRange : mg "range" = none) (mR : mg "repr" = none) : FnG P w K mg base CX0 1 f fd ["told", "place", "bad"] (spOnly K) := by
  refine fun_okG F scOnly (fun vs H Q E h => ?_) (fun cdv A outer s H vs Q E hr hG h => ?_)
  · obtain ⟨_, _, _, _, _, _, rfl, _⟩ := h
    rfl
  obtain ⟨T, L, x, bad, d, k, rfl, hT, hL, hx, hb, sh, q⟩ := h
  have nd := scOnly.nd
  refine ⟨_, pss_one (ps_ret (pe_and (pe_cmpR (op_eqD hr.units) (pe_ix (r := rIxT K) ix_tup (pv 0) pe_int (fun _ _ => rfl)) (pe_lc (own := [("at", 3)]) (g := gName 3) (tt := tYes) rfl nd (pi_range1 (by rfl) mRange (pa_cons pe_int pa_nil)) (blkOk_by (own := [("at", 3)]) (N := ["told", "place", "bad", "at"]) (sc := defScope sOnly) (by decide +kernel)) (fun _ _ _ _ _ => pg_name (i := 3) nd rfl (Or.inl rfl)) (fun _ _ _ _ _ => pts_nil)
      (fun _ _ _ _ _ => pe_cmpR op_eq (pv 3) (pv 1) (by rfl))) (by rfl))
    (pe_one (pe_cmpR op_eq (pe_callB (call_reprZ (room65 hr) hG) (by rfl) mR (by decide +kernel) (pa_cons (pe_ix (r := rIxT K) ix_tup (pv 0) pe_int (fun _ _ => rfl)) pa_nil)) (pe_callB (call_reprZ (room65 hr) hG) (by rfl) mR (by decide +kernel) (pa_cons (pv 2) pa_nil)) (by rfl))))), ?_⟩
  refine ⟨_, rfl, T, _, 0, .ref L, rfl, rfl, .inl (.inl hT), atI_nat (j := 0) rfl, ?_⟩
  refine ⟨3, rfl, by decide, by decide, fun D nD => lc_bools (walk_range (lo := 0) (n := (3 : Int).toNat)) (at3 k) (by simp [at3]) (by decide) nD (fun _ _ => trivial)
    (fun j H' v H'' y => by rw [y.1]; exact fun _ _ h => h) (fun j v H' H'' b hj hb s' y R hR => ?_) (fun H1 s1 e1 => ?_) (fun _ _ _ _ _ m h => m _ _ h)⟩
  · obtain ⟨rfl, rfl⟩ := y
    have hj : j < 3 := hj
    have e : b = decide (V.int (0 + (j : Nat)) = V.int (k : Nat)) := by
      unfold at3 at hb
      rw [List.getElem?_map, List.getElem?_range hj] at hb
      injection hb with hb
      rw [← hb, eq_int]
      exact decide_eq_decide.mpr ⟨fun h => by omega, fun h => by omega⟩
    refine ⟨rfl, _, rfl, _, rfl, rfl, ?_⟩
    rw [← e]
    exact hR H'' fun _ _ h => h
  have sm := sm_bls (at3 k) (by simp [at3])
  refine ⟨.list ((at3 k).map PyData.bool), .list ((at3 k).map PyData.bool), .lst (SqL.of (s1 _ _ hL)) (dp_bls _), .lst (SqL.of e1) (dp_bls _), sm.shaped (by decide), sm.shaped (by decide), _, rfl, ?_⟩
  rw [sm.eqv (by decide)]
  refine iteT' rfl ?_
  refine ⟨_, rfl, T, _, 1, x, rfl, rfl, .inl (.inl (s1 _ _ hT)), atI_nat (j := 1) rfl, x, d, rfl, dp_same s1 _ _ hx, sh, _, rfl, bad, d, rfl, dp_same s1 _ _ hb, sh, rfl, ?_⟩
  rw [decide_eq_true rfl]
  exact q H1 s1
end
end DQ

set_option Elab.async false
set_option linter.all false
set_option maxRecDepth 100000
set_option maxHeartbeats 1000000
namespace DQ
open PySem PySem.Spec PyProof.Rows L2
/-! ### _law_drawn_order of any data -/
theorem pairs_dp {K : PySem.W.Frag} {H : Hp} : ∀ {zs : List (V × PyData)}, (∀ z ∈ zs, Dp K H z.1 z.2) → DpAll K H (zs.map (·.1)) (zs.map (·.2))
  | [], _ => .nil
  | z :: zs, h => .cons (h z List.mem_cons_self) (pairs_dp fun y hy => h y (List.mem_cons_of_mem _ hy))
section
variable {P : Program} {w : World} {K : PySem.W.Frag} {mg : Str → Option Value} {base : Heap}
def spOrderG (K : PySem.W.Frag) : Sp := fun vs H Q _ => ∃ (g t : Addr) (ns : List (V × PyData)) (n : Int), vs = [.ref g, .ref t] ∧ SqL K H t (ns.map (·.1)) ∧ t ≠ g ∧ Gen H g n ∧ ns.length ≤ 900 ∧ n + 3 * ns.length ≤ 1073741824 ∧
  (∀ H', Keep g H H' → ∀ z ∈ ns, Dp K H' z.1 z.2) ∧ (∀ ls : List (V × PyData), (∀ z ∈ ls, z ∈ ns) → SeqAt.shaped (.list (ls.map (·.2))) = true) ∧
  ∀ (p : Addr) (ms : List (V × PyData)) (H' : Hp), ms.Perm ns → Keep g H H' → H p = none → H' p = some (.lst (ms.map (·.1))) → Gen H' g (n + 3 * ns.length) → Q (.ref p) H'
theorem ok_orderG {f fr : Addr} {fd fdr : FuncData} (F : Fun K "_law_drawn_order" "_law_drawn_order" sOrder f fd) (G : FnOk P w K mg base CX0 2 fr fdr ["generator", "bound"] spRandom) (br : Binds K fdr ["generator", "bound"] []) (kr : PySem.W.keepIn K (.ref fr) = true) (mr : mg "_law_random" = some (.ref fr))
    (ml : mg "list" = none) (mn : mg "len" = none) : FnOk P w K mg base CX0 3 f fd ["generator", "things"] (spOrderG K) := by
  refine F.ok scOrder (fun vs H Q E h => ?_) (fun cdv A outer s H vs Q E hr h => ?_)
  · obtain ⟨g, t, ns, n, rfl, _⟩ := h
    rfl
  obtain ⟨g, t, ns, n, rfl, L, ntg, gen, h100, hn, hdp, hsh, q⟩ := h
  have nd := scOrder.nd
  refine ⟨_, pss_cons (ps_par (i := 2) (j := 3) rfl nd rfl rfl (by decide) rfl rfl (pa_cons (pe_callTy call_list_of (by rfl) ml (by decide +kernel) (pa_cons (pv 1) pa_nil)) (pa_cons (pe_lst pa_nil) pa_nil)) (by rfl))
    (pss_cons (ps_while PassesOwn.never (pt_cmpR (op_neD hr.units) (pv 2) (pe_lst pa_nil) (nomark _))
      (pss_one (ps_expr (pe_bm PySem.F.plainAttrs_list PySem.F.slot_list_append PySem.F.type_list_append mt_append (pv 3) (pa_cons
        (pe_bm PySem.F.plainAttrs_list PySem.F.slot_list_pop PySem.F.type_list_pop mt_popAt (pv 2) (pa_cons
          (pe_call G (hr.mono (by decide)) rfl mr kr br .nil pass0 (pa_cons (pv 0) (pa_cons (pe_callB call_len_seq (by rfl) mn PySem.boot_len (pa_cons (pv 2) pa_nil)) pa_nil))) pa_nil)) pa_nil)))))
    (pss_one (ps_ret (pv 3)))), ?_⟩
  refine ⟨_, rfl, t, _, rfl, .inl L, fun l nl => ⟨Nat.zero_le _, fun p np => ⟨_, _, rfl, ?_⟩⟩⟩
  have npl : p ≠ l := fun e => by
    rw [e, upd_same] at np
    cases np
  have np0 : H p = none := by
    rw [upd_ne npl] at np
    exact np
  have nlg : l ≠ g := gen.ne nl
  have npg : p ≠ g := gen.ne np0
  refine while_by (fun σ H' => ∃ ls fs : List (V × PyData), σ = [some (.ref g), some (.ref t), some (.ref l), some (.ref p)] ∧ (fs ++ ls).Perm ns ∧ Keep g H H' ∧ H' l = some (.lst (ls.map (·.1))) ∧ H' p = some (.lst (fs.map (·.1))) ∧ Gen H' g (n + 3 * fs.length)) (fun _ H' => size H' l)
    ⟨ns, [], rfl, List.Perm.refl _, Keep.of_same ((same_new nl).trans (same_new np)), by rw [upd_ne npl.symm, upd_same], upd_same, by simpa using (gen.upd nlg.symm).upd npg.symm⟩ (fun σ H' hP => ?_) fun σ H' Q Q' h hc => ?_
  · obtain ⟨ls, fs, rfl, pm, kp, el, ep, gn⟩ := hP
    refine ⟨_, rfl, Nat.zero_le _, fun e ne => ?_⟩
    have nel : l ≠ e := ne_of_none el ne
    have nep : p ≠ e := ne_of_none ep ne
    have me := same_new ne (o := .lst [])
    refine ⟨PyData.list (ls.map fun z : V × PyData => z.2), .list [], .lst (SqL.of (me _ _ el)) (pairs_dp fun z hz => hdp _ (kp.trans (Keep.of_same me)) z (pm.mem_iff.mp (List.mem_append_right _ hz))), .lst (SqL.of upd_same) .nil, hsh ls (fun z hz => pm.mem_iff.mp (List.mem_append_right _ hz)), by decide +kernel, ?_⟩
    cases ls with
    | nil =>
      refine ⟨false, rfl, ?_⟩
      rw [List.append_nil] at pm
      refine ⟨_, rfl, q p fs _ pm (kp.trans (Keep.of_same me)) np0 (me _ _ ep) ?_⟩
      rw [← pm.length_eq]
      exact gn.same me
    | cons y ys =>
      refine ⟨true, rfl, ?_⟩
      have hlen : (fs ++ y :: ys).length = ns.length := pm.length_eq
      rw [List.length_append, List.length_cons] at hlen
      refine ⟨_, rfl, .inl ⟨rfl, _, SqL.of (me _ _ ep)⟩, _, rfl, .inl ⟨rfl, _, SqL.of (me _ _ el)⟩, _, rfl, _, rfl, l, _, rfl, .inl (SqL.of (me _ _ el)), g, _, _, rfl, gn.same me, ?_, ?_, ?_, fun r H2 r0 r1 gn2 bt => ?_⟩
      · rw [List.length_map, List.length_cons]
        omega
      · rw [List.length_map, List.length_cons]
        omega
      · omega
      rw [List.length_map] at r1
      have hc : (y :: ys).length = ys.length + 1 := rfl
      have hk : r.toNat < (y :: ys).length := by omega
      have el2 : H2 l = some (.lst ((y :: ys).map (·.1))) := (bt l nlg).trans (me _ _ el)
      have ep2 : H2 p = some (.lst (fs.map (·.1))) := (bt p npg).trans (me _ _ ep)
      have eg : ((y :: ys).map (·.1))[r.toNat]? = some ((y :: ys)[r.toNat]).1 := by
        rw [List.getElem?_map, List.getElem?_eq_getElem hk]
        rfl
      refine ⟨l, _, r, r.toNat, _, rfl, rfl, el2, by omega, by omega, seq_at r0 (by rw [List.length_map]; exact r1), eg, ?_⟩
      refine ⟨p, _, _, rfl, rfl, by rw [upd_ne npl]; exact ep2, ?_, ?_⟩
      · rw [List.length_map]
        exact small1000 (by omega)
      have keep2 : Keep g H H2 := (kp.trans (Keep.of_same me)).trans (Keep.of_but bt)
      refine ⟨⟨(y :: ys).eraseIdx r.toNat, fs ++ [(y :: ys)[r.toNat]], rfl, ?_, fun b o nb eb => ?_, ?_, ?_, ?_⟩, ?_⟩
      · rw [List.append_assoc]
        exact (List.Perm.append_left fs (perm_erase (List.getElem?_eq_getElem hk))).trans pm
      · rw [upd_ne (ne_of_none eb np0), upd_ne (ne_of_none eb nl)]
        exact keep2 b o nb eb
      · rw [upd_ne npl.symm, upd_same, map_erase]
      · rw [upd_same, List.map_append]
        rfl
      · rw [List.length_append, List.length_singleton]
        exact ((gn2.upd nlg.symm).upd npg.symm).mono (by omega)
      · show size _ l < size _ l
        rw [size_of (show upd (upd H2 l _) p _ l = some (.lst _) by rw [upd_ne npl.symm, upd_same]), size_of el, List.length_eraseIdx, if_pos (by rw [List.length_map]; exact hk), List.length_map]
        omega
  · obtain ⟨v, e, l0, hp⟩ := hc
    exact ⟨v, e, l0, fun p hp' => let ⟨d, e', a1, a2, a3, a4, k, e5, z⟩ := hp p hp'; ⟨d, e', a1, a2, a3, a4, k, e5, h _ _ z⟩⟩
end
end DQ

set_option Elab.async false
set_option linter.all false
set_option maxRecDepth 100000
set_option maxHeartbeats 1000000
namespace DQ
open PySem PySem.Spec PyProof.Rows L2
/-! ### what store_of is asked with good arguments; how many facts -/
theorem words_fit {ms : List Str} (h : ∀ x ∈ ms, x ∈ drawnWords) (l : ms.length ≤ 10000) : Fits (.list (ms.map PyData.str)) ∧ Lays (.list (ms.map PyData.str)) := by
  refine ⟨fun ds e => ?_, fun ds e d hd => ?_⟩ <;> injection e with e <;> subst e
  · refine ⟨by rw [List.length_map]; exact l, fun d hd x ex => ?_⟩
    obtain ⟨y, hy, e⟩ := List.mem_map.mp hd
    rw [ex] at e
    injection e with e
    rw [← e]; exact (lay_words y (h y hy)).2
  · obtain ⟨y, hy, rfl⟩ := List.mem_map.mp hd
    exact (lay_words y (h y hy)).1
theorem ints_fit {ns : List Int} (l : ns.length ≤ 10000) : Fits (.list (ns.map PyData.int)) := fun ds e => by
  injection e with e
  subst e
  refine ⟨by rw [List.length_map]; exact l, fun d hd x ex => ?_⟩
  obtain ⟨y, _, e⟩ := List.mem_map.mp hd
  rw [ex] at e; cases e
section
variable {K : PySem.W.Frag} {H : Hp} {C : Addr} {E : XK}
theorem signs_good {vm vc : V} {dm dc : PyData} {go : Hp → Prop} (hm : Dp K H vm dm) (fm : Fits dm ∧ Lays dm) (wm : wordsD 4 dm = true) (hc : Dp K H vc dc) (fc : Fits dc ∧ Lays dc) (wc : columnsD (texts (listD dm)) dc = true) (g : ∀ H', Same H H' → go H') : AsksSigns K C vm vc dm dc H E go :=
  ⟨hm, fm.1, fm.2, fun e => absurd e (by rw [wm]; exact Bool.noConfusion), fun _ => ⟨hc, fc.1, fc.2, fun e => absurd e (by rw [wc]; exact Bool.noConfusion), fun _ => g⟩⟩
theorem rest_good {vi vf : V} {di df : PyData} {go : Hp → Prop} (hi : Dp K H vi di) (fi : Fits di) (wi : numsD di = true) (hf : Dp K H vf df) (wf : isT "list" df = true) (g : ∀ H', Same H H' → go H') : AsksRest K C vi vf di df H E go :=
  ⟨hi, fi, fun e => absurd e (by rw [wi]; exact Bool.noConfusion), fun _ => ⟨hf, fun e => absurd e (by rw [wf]; exact Bool.noConfusion), fun _ => g⟩⟩
end
theorem list_is (ds : List PyData) : isT "list" (.list ds) = true := by simp only [isT, tyN]; decide
theorem okItem_same {ns ms : List Int} (h : ∀ i, i ∈ ns ↔ i ∈ ms) : okItem ns = okItem ms := funext fun d => by
  unfold okItem
  cases d with
  | int i => simp only [h i]
  | _ => rfl
theorem isFact_same {a b : List Str} {ns ms : List Int} (h : ∀ i, i ∈ ns ↔ i ∈ ms) (d : PyData) : isFactD a b ns d = isFactD a b ms d := by
  unfold isFactD
  rw [okItem_same h]
theorem nums_all {ns : List Int} (h : ∀ x ∈ ns, 0 ≤ x ∧ x ≤ 1000000000) : numsD (.list (ns.map PyData.int)) = true := by
  show ((ns.map PyData.int).all numD) = true
  rw [List.all_eq_true]
  intro d hd
  obtain ⟨i, hi, rfl⟩ := List.mem_map.mp hd
  have z := h i hi
  simp [numD, z.1, z.2]
theorem facts_63 {S : Store} (D : Drawn 12 S) : S.facts.length < 64 := by
  have nd := rise_nodup D.rise
  obtain ⟨k, hk, ek⟩ := D.marks
  obtain ⟨j, _, hj, ej⟩ := D.columns
  have fi := D.few
  have len : ∀ c, (linksOf c S.facts).length ≤ 12 := fun c => Nat.le_trans (D.links c).len fi
  have z := nodup_few (D := (S.marks.flatMap fun m => S.items.map (Fact.mark m)) ++ S.columns.flatMap fun c => (linksOf c S.facts).map fun p => Fact.link c p.1 p.2) nd fun x hx => by
    have o := D.facts x hx
    cases x with
    | mark m i => exact List.mem_append_left _ (List.mem_flatMap.mpr ⟨m, o.1, List.mem_map.mpr ⟨i, o.2, rfl⟩⟩)
    | link c a b => exact List.mem_append_right _ (List.mem_flatMap.mpr ⟨c, o.1, List.mem_map.mpr ⟨(a, b), mem_links hx, rfl⟩⟩)
  have f1 : ∀ ms : List Str, (ms.flatMap fun m => S.items.map (Fact.mark m)).length ≤ ms.length * 12 := fun ms => by
    induction ms with
    | nil => exact Nat.zero_le _
    | cons m ms ih =>
      rw [List.flatMap_cons, List.length_append, List.length_map, List.length_cons, Nat.add_mul]
      omega
  have f2 : ∀ cs : List Str, (cs.flatMap fun c => (linksOf c S.facts).map fun p => Fact.link c p.1 p.2).length ≤ cs.length * 12 := fun cs => by
    induction cs with
    | nil => exact Nat.zero_le _
    | cons c cs ih =>
      rw [List.flatMap_cons, List.length_append, List.length_map, List.length_cons, Nat.add_mul]
      have := len c
      omega
  have lm : S.marks.length ≤ 3 := by rw [ek, List.length_take]; omega
  have lc : S.columns.length ≤ 2 := by rw [ej, List.length_take]; omega
  rw [List.length_append] at z
  have a1 := f1 S.marks
  have a2 := f2 S.columns
  omega
theorem make_same {S : Store} (D : Drawn 12 S) {ns : List Int} {fs gs : List Fact} (hn : ∀ i, i ∈ ns ↔ i ∈ S.items) (nd : gs.Nodup) (h1 : ∀ x, x ∈ gs ↔ x ∈ fs) (h2 : ∀ x, x ∈ fs ↔ x ∈ S.facts) : (⟨S.marks, S.columns, sortI (onces ns), sortF gs⟩ : Store) = S := by
  have o := onces_facts _ ns rfl
  have p1 : (onces ns).Perm S.items := (List.perm_ext_iff_of_nodup o.1 (D.items.1.imp fun h e => by omega)).mpr fun i => (o.2.1 i).trans (hn i)
  have p2 : gs.Perm S.facts := (List.perm_ext_iff_of_nodup nd (rise_nodup D.rise)).mpr fun x => (h1 x).trans (h2 x)
  have e1 : sortI (onces ns) = S.items := (sortI_of p1.symm (D.items.1.imp fun h => Int.le_of_lt h)).symm
  have e2 : sortF gs = S.facts := rise_eq ((sortF_perm _).trans p2) (sortF_rise nd) D.rise
  rw [e1, e2]
/-- store_of with a drawn store's parts, items and facts in any order, some twice -/
theorem make_good {K : PySem.W.Frag} {C CT CF : Addr} {H : Hp} {Q : VK} {E : XK} {S : Store} (D : Drawn 12 S) {ma ca ia fa : Addr} {ns : List Int} {fs : List Fact} {xs : List V} (hm : H ma = some (.lst (S.marks.map V.str))) (hc : H ca = some (.lst (S.columns.map V.str))) (hi : H ia = some (.lst (ns.map V.int))) (hf : H fa = some (.lst xs)) (tp : Tups H xs (fs.map Fact.v))
    (ln : ns.length ≤ 2000) (lf : fs.length ≤ 10000) (hn : ∀ i, i ∈ ns ↔ i ∈ S.items) (h2 : ∀ x, x ∈ fs ↔ x ∈ S.facts) (q : ∀ v H', Same H H' → NewSto H H' v S → Q v H') : spMake K C CT CF [.ref ma, .ref ca, .ref ia, .ref fa] H Q E := by
  obtain ⟨k, hk, ek⟩ := D.marks
  obtain ⟨j, hj1, hj, ej⟩ := D.columns
  have fm := D.fewMarks
  have fc := D.fewColumns
  have lay : ∀ x ∈ fs, PyData.canLay0 (.str x.word) = true := fun x hx => (lay_words _ (D.factWord ((h2 x).mp hx))).1
  refine ⟨_, _, _, _, .list (S.marks.map PyData.str), .list (S.columns.map PyData.str), .list (ns.map PyData.int), .list (fs.map Fact.d), rfl, signs_good (.lst (SqL.of hm) (dp_texts _)) (words_fit (fun x h => D.word (.inl h)) (by omega)) (by rw [ek]; exact marks_ok hk) (.lst (SqL.of hc) (dp_texts _)) (words_fit (fun x h => D.word (.inr h)) (by omega))
    (by show columnsD (texts (S.marks.map PyData.str)) _ = true; rw [texts_strs, ek, ej]; exact columns_ok hk hj1 hj) fun H1 s1 => rest_good (.lst (SqL.of (s1 _ _ hi)) (dp_intsL _)) (ints_fit (by omega)) (nums_all fun i hx => D.items.2 i ((hn i).mp hx)) (.lst (SqL.of (s1 _ _ hf)) (dp_facts (tp.keep (tk_same s1)))) (list_is _) fun H2 s2 => ?_⟩
  have s := s1.trans s2
  have tp2 := tp.keep (tk_same s)
  refine ⟨ma, ca, ia, fa, S.marks, S.columns, ns, xs, fs.map Fact.d, rfl, rfl, rfl, rfl, SqL.of (s _ _ hm), SqL.of (s _ _ hc), (sm_words (fun x h => D.word (.inl h)) fm).shaped (by decide), (sm_words (fun x h => D.word (.inr h)) fc).shaped (by decide), SqL.of (s _ _ hi), by omega, SqL.of (s _ _ hf), dp_facts tp2, by rw [List.length_map]; exact lf, fun d hd => ?_, by omega, by omega, ?_⟩
  · obtain ⟨x, hx, rfl⟩ := List.mem_map.mp hd
    exact fact_parts x (lay x hx)
  refine .made (Nat.le_trans (onces_facts _ ns rfl).2.2 ln) (fun d hd => ?_) fs rfl tp2 lay (fun x hx y hy => noClash_of D.links x ((h2 x).mp hx) y ((h2 y).mp hy)) S.facts (fun x hx => (h2 x).mp hx) (facts_63 D) fun gs v H' nd h1 s3 N => ?_
  · obtain ⟨x, hx, rfl⟩ := List.mem_map.mp hd
    rw [isFact_same hn]
    exact isFact_of D.items.2 (D.facts x ((h2 x).mp hx))
  · rw [make_same D hn nd h1 h2] at N
    exact q v H' (s.trans s3) (N.up s)
end DQ

set_option Elab.async false
set_option linter.all false
set_option maxRecDepth 100000
set_option maxHeartbeats 1000000
namespace DQ
open PySem PySem.Spec PyProof.Rows L2
/-! ### f(k = v, ..): keywords alone -/
def tCallK0 (m : Nat) (sp : Sp) (gV : List V → List V → List V) (E : L2.St → XK) (tk : TA) : TE := fun σ H Q => tk σ H fun zs H2 => zs.length = m ∧ sp (gV [] zs) H2 Q (E σ)
section
variable {X : Cx} {CX : CXT} {k : Nat} {f : Addr} {fd : FuncData} {ps ks : List Str} {sp : Sp} {E : L2.St → XK} {x : Str} {p pos : Pos} {kws : List Keyword} {tk : TA} {g : List Value → List Value → List Value} {gV : List V → List V → List V}
theorem pe_callK0 (F : FnOk X.prog X.w X.K X.mg X.base CX k f fd ps sp) (hr : Room k X.A) (hg : Gl X x) (hm : X.mg x = some (.ref f)) (hk : PySem.W.keepIn X.K (.ref f) = true) (hb : KBn X.K fd ps 0 ks g gV) (hx : ∀ σ, PassesAt CX X σ (E σ)) (hkw : PK X kws tk)
    (hall : (backToKw pos (keywordEach kws X.env)).all (·.1.isSome) = true := by rfl) (hks : (backToKw pos (keywordEach kws X.env)).filterMap (·.1) = ks := by rfl) (hdb : (x == ("__debug__" : Str)) = false := by decide)
    (hpl : ((backTo pos (starEach [] X.env)).any (·.1) || (backToKw pos (keywordEach kws X.env)).any (·.1.isNone)) = false := by rfl) :
    PE X (.Call (.Name x p) [] kws pos) (tCallK0 ks.length sp gV E tk) := ⟨fun pins s σ H Q I h => by
  refine wpAny_Call_Name_kw (ld_glob I hg hm (PySem.W.callWith_KW0 (h₀ := X.base) I.ok.mod.kin hk hall (thn (hkw.run pos pins s σ H _ I h) fun ws s1 h1 => ?_) hpl) hdb)
  obtain ⟨zs, H1, I1, rz, lz, q1⟩ := h1
  refine ⟨I1.kIn, ?_⟩
  rw [hks]
  have e2 : ws.length = ks.length := rz.length.symm.trans lz
  show wpAny _ _ (call (.ref f) [] (ks.zip ws)) _ _ _
  refine wpAny_call (codeAny_mono (F.run X.A X.stack s1 H1 ⟨[], ks.zip ws⟩ (g [] ws) (gV [] zs) Q (E σ) hr I1.env0 (hb.to s1 [] ws I1.kIn rfl e2) (hb.rel .nil rz) q1) fun r s' hq => ?_)
  cases r with
  | error e => exact hx σ pins H1 s1 e s' I1 hq
  | ok fl =>
    cases fl with
    | ret u => exact I1.after hq
    | next => exact False.elim hq
    | brk => exact False.elim hq
    | cont => exact False.elim hq⟩
end
/-- the second, then the first; the third, the second, the first -/
def turn2 {α : Type} : List α → List α
  | [a, b] => [b, a]
  | l => l
def turn3 {α : Type} : List α → List α
  | [a, b, c] => [c, b, a]
  | l => l
theorem vals_turn2 {vs : List V} {us : List Value} (r : Vals vs us) : Vals (turn2 vs) (turn2 us) := by
  match r with
  | .nil => exact .nil
  | .cons a .nil => exact .cons a .nil
  | .cons a (.cons b .nil) => exact .cons b (.cons a .nil)
  | .cons a (.cons b (.cons c r)) => exact .cons a (.cons b (.cons c r))
theorem vals_turn3 {vs : List V} {us : List Value} (r : Vals vs us) : Vals (turn3 vs) (turn3 us) := by
  match r with
  | .nil => exact .nil
  | .cons a .nil => exact .cons a .nil
  | .cons a (.cons b .nil) => exact .cons a (.cons b .nil)
  | .cons a (.cons b (.cons c .nil)) => exact .cons c (.cons b (.cons a .nil))
  | .cons a (.cons b (.cons c (.cons d r))) => exact .cons a (.cons b (.cons c (.cons d r)))
end DQ

set_option Elab.async false
set_option linter.all false
set_option maxRecDepth 100000
set_option maxHeartbeats 2000000
namespace DQ
open PySem PySem.Spec PyProof.Rows L2
/-- for part in told[1:]: part.append(None), told a new store -/
theorem parts_end {K : PySem.W.Frag} {i j : Nat} {D : Ends} {σ : L2.St} {H0 H : Hp} {tv : V} {S : Store} (hj : σ[j]? = some (some tv)) (hi : i < σ.length) (N : NewSto H0 H tv S) (s0 : Same H0 H) (fm : S.marks.length ≤ 1000) (fc : S.columns.length ≤ 1000) (fi : S.items.length ≤ 1000) (ff : S.facts.length ≤ 1000) (q : ∀ y H', Same H0 H' → D.nx (σ.set i y) H') :
    tFor (iTup K (tSl (rSlT K) (tVar j) (tPart (tC (V.int 1))) tNoPart)) (gName i) (tDrop (tBM K "list" rAppend (tVar i) (tCons (tC V.non) tNil))) D σ H := by
  obtain ⟨t, m', c, i', f, rs, rfl, ht, hm', hc, hi', hf, tp, n1, n2, n3, n4, n5, m1, m2, m3, m4, m5, m6⟩ := N
  have lr : rs.length ≤ 1000 := by rw [tp.length, List.length_map]; exact ff
  refine ⟨_, hj, _, rfl, t, _, rfl, .inl (.inl ht), (fun z => absurd z.1 (show ¬ HT.sIx 5 0 (some 1) = 0 by decide)), fun p np => ?_⟩
  rw [show cutV [V.str "store", .ref m', .ref c, .ref i', .ref f] (some 1) none = [.ref m', .ref c, .ref i', .ref f] from rfl]
  have g1 := same_new np (o := .tup [V.ref m', .ref c, .ref i', .ref f])
  have f1 : L2.upd H p (.tup [V.ref m', .ref c, .ref i', .ref f]) p = some (.tup [V.ref m', .ref c, .ref i', .ref f]) := upd_same
  generalize L2.upd H p (.tup [V.ref m', .ref c, .ref i', .ref f]) = H1 at g1 f1 ⊢
  refine ⟨p, rfl, ⟨_, .inl (.inl f1)⟩, for_it (walk_tup (K := K) (a := p) (xs := [V.ref m', .ref c, .ref i', .ref f])) (fun k σ' H' => (∃ y, σ' = σ.set i y) ∧ Same H0 H' ∧ H' p = some (.tup [V.ref m', .ref c, .ref i', .ref f]) ∧ ∀ x ∈ [m', c, i', f], H0 x = none ∧ ∃ xs, H' x = some (.lst xs) ∧ xs.length ≤ 1000 + k)
    ⟨⟨σ[i], (List.set_getElem_self hi).symm⟩, s0.trans g1, f1, fun x hx => ?_⟩ (fun k σ' H' _ hP => .inl (.inl hP.2.2.1)) (fun k x σ' H' H'' hk hP y => ?_) fun σ' H' hP => ?_⟩
  · simp only [List.mem_cons, List.not_mem_nil, or_false] at hx
    rcases hx with rfl | rfl | rfl | rfl
    · exact ⟨n2, _, g1 _ _ hm', by rw [List.length_map]; omega⟩
    · exact ⟨n3, _, g1 _ _ hc, by rw [List.length_map]; omega⟩
    · exact ⟨n4, _, g1 _ _ hi', by rw [List.length_map]; omega⟩
    · exact ⟨n5, _, g1 _ _ hf, by omega⟩
  · obtain ⟨⟨y0, rfl⟩, s1, ep, al⟩ := hP
    obtain ⟨rfl, hx⟩ := y
    have hk : k < 4 := hk
    have hx' : x ∈ [m', c, i', f].map V.ref := List.mem_of_getElem? hx
    obtain ⟨b, hb, rfl⟩ := List.mem_map.mp hx'
    obtain ⟨nb, xs, eb, lb⟩ := al b hb
    refine ⟨.ref b, by simp [hi], .inl ⟨rfl, _, SqL.of eb⟩, b, xs, _, rfl, rfl, eb, Nat.lt_of_le_of_lt (show xs.length ≤ 2000 by omega) (by decide), ⟨_, by rw [List.set_set]⟩, same_upd s1 nb, ?_, fun x hx => ?_⟩
    · have ne : p ≠ b := fun e => by
        rw [e, eb] at ep
        cases ep
      rw [upd_ne ne]
      exact ep
    · obtain ⟨nx, ys, ex, lx⟩ := al x hx
      refine ⟨nx, ?_⟩
      by_cases e : x = b
      · subst e
        rw [eb] at ex
        injection ex with ex
        injection ex with ex
        exact ⟨_, upd_same, by rw [List.length_append, List.length_singleton]; omega⟩
      · exact ⟨ys, by rw [upd_ne e]; exact ex, by omega⟩
  · obtain ⟨⟨y, rfl⟩, s1, _, _⟩ := hP
    exact q y H' s1

/-! ### _law_made_right -/
abbrev sRight : Stmt := topS 40
abbrev NMr : List Str := ["generator", "store", "sort", "marks", "columns", "items", "facts", "item", "some", "fact", "told", "kept", "made", "part"]
theorem scRight : FnScope NMr ["generator", "store"] (defScope sRight) := ⟨rfl, rfl, rfl, by decide +kernel, rfl, by decide +kernel, by decide +kernel⟩
def turn4 {α : Type} : List α → List α
  | [a, b, c, d] => [d, c, b, a]
  | l => l
theorem vals_turn4 {vs : List V} {us : List Value} (r : Vals vs us) : Vals (turn4 vs) (turn4 us) := by
  match r with
  | .nil => exact .nil
  | .cons a .nil => exact .cons a .nil
  | .cons a (.cons b .nil) => exact .cons a (.cons b .nil)
  | .cons a (.cons b (.cons c .nil)) => exact .cons a (.cons b (.cons c .nil))
  | .cons a (.cons b (.cons c (.cons d .nil))) => exact .cons d (.cons c (.cons b (.cons a .nil)))
  | .cons a (.cons b (.cons c (.cons d (.cons e r)))) => exact .cons a (.cons b (.cons c (.cons d (.cons e r))))
def spRight : Sp := fun vs H Q _ => ∃ (g : Addr) (v : V) (S : Store) (n : Int), vs = [.ref g, v] ∧ Drawn 12 S ∧ StoAt (del H g) v S ∧ Gen H g n ∧ n + 2000 ≤ 1073741824 ∧ ∀ H', Keep g H H' → Gen H' g (n + 2000) → Q (.bl true) H'
section
variable {P : Program} {w : World} {K : PySem.W.Frag} {mg : Str → Option Value} {base : Heap}
theorem kb_make {f : Addr} {fd : FuncData} (F : Fun K "store_of" "store_of" sMake f fd) : KBn K fd ["marks", "columns", "items", "facts"] 0 ["facts", "items", "columns", "marks"] (fun us ws => us ++ turn4 ws) (fun vs zs => vs ++ turn4 zs) := by
  obtain ⟨oc, od, kV, doc, pm, an, cdv, ct, osl, rfl, lk, hcd⟩ := F.ex
  exact ⟨fun s us ws X l1 l2 => match us, l1, ws, l2 with
    | [], _, [_, _, _, _], _ => .of_eq rfl, fun r1 r2 => r1.append (vals_turn4 r2)⟩
theorem NewSto.down {H H1 H2 : Hp} {v : V} {S : Store} (N : NewSto H H1 v S) (s : Same H1 H2) : NewSto H H2 v S := by
  obtain ⟨a, m, c, i, f, rs, e, h1, h2, h3, h4, h5, tp, r⟩ := N
  exact ⟨a, m, c, i, f, rs, e, s _ _ h1, s _ _ h2, s _ _ h3, s _ _ h4, s _ _ h5, tp.keep (tk_same s), r⟩
def zI (i : Int) : V × PyData := (.int i, .int i)
def zF (z : V × Fact) : V × PyData := (z.1, z.2.d)
theorem zI_fst (ns : List Int) : (ns.map zI).map (·.1) = ns.map V.int := by rw [List.map_map]; rfl
theorem zI_snd (ns : List Int) : (ns.map zI).map (·.2) = ns.map PyData.int := by rw [List.map_map]; rfl
theorem zF_fst (zs : List (V × Fact)) : (zs.map zF).map (·.1) = zs.map (·.1) := by rw [List.map_map]; rfl
theorem zI_all {l : List (V × PyData)} {ns : List Int} (h : ∀ z ∈ l, z ∈ ns.map zI) : ∃ ms : List Int, l = ms.map zI := by
  induction l with
  | nil => exact ⟨[], rfl⟩
  | cons z l ih =>
    obtain ⟨ms, e⟩ := ih fun y hy => h y (List.mem_cons_of_mem _ hy)
    obtain ⟨i, _, ei⟩ := List.mem_map.mp (h z List.mem_cons_self)
    exact ⟨i :: ms, by rw [List.map_cons, ← e, ei]⟩
theorem zF_shaped {S : Store} {m : Nat} (D : Drawn m S) {l : List (V × PyData)} (h : ∀ z ∈ l, ∃ x ∈ S.facts, z.2 = x.d) : SeqAt.shaped (.list (l.map (·.2))) = true :=
  ((smAll (k := 1) (n := 260) fun d hd => by
    obtain ⟨z, hz, rfl⟩ := List.mem_map.mp hd
    obtain ⟨x, hx, e⟩ := h z hz
    rw [e]; exact sm_fact D hx).list (Nat.le_refl _)).shaped (by decide)
theorem four_shows {S : Store} {m : Nat} (D : Drawn m S) {ns : List Int} {fs : List Fact} (hn : ∀ i ∈ ns, i ∈ S.items) (ln : ns.length ≤ 1000) (hf : ∀ x ∈ fs, x ∈ S.facts) (lf : fs.length ≤ 1000) : Shows (.list [.list (S.marks.map PyData.str), .list (S.columns.map PyData.str), .list (ns.map PyData.int), .list (fs.map Fact.d)]) := by
  have a := (sm_words (ms := S.marks) (fun x h => D.word (.inl h)) D.fewMarks).mono (k' := 2) (n' := 261000) (by decide) (by decide)
  have b := (sm_words (ms := S.columns) (fun x h => D.word (.inr h)) D.fewColumns).mono (k' := 2) (n' := 261000) (by decide) (by decide)
  have c := (sm_items (fun i hi => D.items.2 i (hn i hi)) ln).mono (k' := 2) (n' := 261000) (by decide) (by decide)
  have d := sm_facts D hf lf
  exact ((smAll (k := 2) (n := 261000) (ds := [.list (S.marks.map PyData.str), .list (S.columns.map PyData.str), .list (ns.map PyData.int), .list (fs.map Fact.d)]) fun e he => by
    simp only [List.mem_cons, List.not_mem_nil, or_false] at he
    rcases he with rfl | rfl | rfl | rfl
    · exact a
    · exact b
    · exact c
    · exact d).list (m := 4) (Nat.le_refl _)).shows (by decide) (by decide)
theorem ok_right {f fr fo fm CL CT CF : Addr} {fd dr do_ dm : FuncData} (F : Fun K "_law_made_right" "_law_made_right" sRight f fd)
    (GR : FnOk P w K mg base CX0 2 fr dr ["generator", "bound"] spRandom) (bR : Binds K dr ["generator", "bound"] []) (kR : PySem.W.keepIn K (.ref fr) = true) (mR : mg "_law_random" = some (.ref fr))
    (GO : FnOk P w K mg base CX0 3 fo do_ ["generator", "things"] (spOrderG K)) (bO : Binds K do_ ["generator", "things"] []) (kO : PySem.W.keepIn K (.ref fo) = true) (mO : mg "_law_drawn_order" = some (.ref fo))
    (GM : FnOk P w K mg base (L2.CX P w) 7 fm dm ["marks", "columns", "items", "facts"] (spMake K CL CT CF)) (bM : Binds K dm ["marks", "columns", "items", "facts"] []) (kM : PySem.W.keepIn K (.ref fm) = true) (mM : mg "store_of" = some (.ref fm)) (kbM : KBn K dm ["marks", "columns", "items", "facts"] 0 ["facts", "items", "columns", "marks"] (fun us ws => us ++ turn4 ws) (fun vs zs => vs ++ turn4 zs))
    (mRepr : mg "repr" = none) : FnG P w K mg base CX0 8 f fd ["generator", "store"] spRight := by
  refine fun_okG F scRight (fun vs H Q E h => ?_) (fun cdv A outer s H vs Q E hr hG h => ?_)
  · obtain ⟨_, _, _, _, rfl, _⟩ := h
    rfl
  obtain ⟨g, v, S, n, rfl, D, A0, gen, hn, q⟩ := h
  have nd := scRight.nd
  refine ⟨_, (pss_cons (ps_asg (pv 1) (pg_tup rfl (pgs_cons (pg_name (i := 2) nd rfl (.inl rfl)) (pgs_cons (pg_name (i := 3) nd rfl (.inl rfl)) (pgs_cons (pg_name (i := 4) nd rfl (.inl rfl)) (pgs_cons (pg_name (i := 5) nd rfl (.inl rfl)) (pgs_cons (pg_name (i := 6) nd rfl (.inl rfl)) pgs_nil)))))))
    (pss_cons (ps_set (i := 8) nd rfl (.inl rfl) (pe_call GO (hr.mono (by decide)) rfl mO kO bO .nil pass0 (pa_cons (pv 0) (pa_cons (pe_op op_cat (pv 5) (pe_lc (own := [("item", 7)]) (g := gName 7) rfl nd (pi_list (pv 5)) (blkOk_by (own := [("item", 7)]) (N := NMr) (sc := defScope sRight) (by decide +kernel)) (fun _ _ _ _ _ => pg_name (i := 7) nd rfl (Or.inl rfl)) (fun _ _ _ _ _ => pts_one (pt_cmpR op_eq (pe_call GR (hr.mono (by decide)) rfl mR kR bR .nil pass0 (pa_cons (pv 0) (pa_cons pe_int pa_nil))) pe_int (nomark _))) (fun _ _ _ _ _ => pv 7))) pa_nil))))
    (pss_cons (ps_set (i := 10) nd rfl (.inl rfl) (pe_call GO (hr.mono (by decide)) rfl mO kO bO .nil pass0 (pa_cons (pv 0) (pa_cons (pe_op op_cat (pv 6) (pe_lc (own := [("fact", 9)]) (g := gName 9) rfl nd (pi_list (pv 6)) (blkOk_by (own := [("fact", 9)]) (N := NMr) (sc := defScope sRight) (by decide +kernel)) (fun _ _ _ _ _ => pg_name (i := 9) nd rfl (Or.inl rfl)) (fun _ _ _ _ _ => pts_one (pt_cmpR op_eq (pe_call GR (hr.mono (by decide)) rfl mR kR bR .nil pass0 (pa_cons (pv 0) (pa_cons pe_int pa_nil))) pe_int (nomark _))) (fun _ _ _ _ _ => pv 9))) pa_nil))))
    (pss_cons (ps_set (i := 11) nd rfl (.inl rfl) (pe_callB (call_reprV (room65 hr) hG) (by rfl) mRepr (by decide +kernel) (pa_cons (pe_lst (pa_cons (pv 3) (pa_cons (pv 4) (pa_cons (pv 8) (pa_cons (pv 10) pa_nil))))) pa_nil)))
    (pss_cons (ps_set (i := 12) nd rfl (.inl rfl) (pe_callS (E := WE fun _ _ _ _ => False) GM (hr.mono (by decide)) rfl mM kM bM (fun σ => passAt takes0 σ) (pa_cons (pv 3) (pa_cons (pv 4) (pa_cons (pv 8) (pa_cons (pv 10) pa_nil))))))
    (pss_cons (ps_if (PW.pt (pw_or (pt_cmpR op_ne (pe_callB (call_reprV (room65 hr) hG) (by rfl) mRepr (by decide +kernel) (pa_cons (pv 12) pa_nil)) (pe_callB (call_reprV (room65 hr) hG) (by rfl) mRepr (by decide +kernel) (pa_cons (pv 1) pa_nil)) (nomark _)) (pw_or (pt_cmpR (op_neD hr.units) (pe_callK0 (ks := ["facts", "items", "columns", "marks"]) (E := WE fun _ _ _ _ => False) GM (hr.mono (by decide)) rfl mM kM kbM (fun σ => passAt takes0 σ) (pk_cons (pv 10) (pk_cons (pv 8) (pk_cons (pv 4) (pk_cons (pv 3) pk_nil))))) (pv 1) (nomark _)) (pw_or1 (pt_cmpR op_ne (pe_callB (call_reprV (room65 hr) hG) (by rfl) mRepr (by decide +kernel) (pa_cons (pe_lst (pa_cons (pv 3) (pa_cons (pv 4) (pa_cons (pv 8) (pa_cons (pv 10) pa_nil))))) pa_nil)) (pv 11) (nomark _)))))) (pss_one (ps_ret pe_bl)) pss_nil)
    (pss_cons (ps_for (passes_of rfl) rfl (pi_tupK (K := K) rfl (pe_slice (r := rSlT K) sl_tup (pv 12) (po_some pe_int) po_none)) (pg_name (i := 13) nd rfl (.inl rfl)) (pss_one (ps_expr (pe_bm PySem.F.plainAttrs_list PySem.F.slot_list_append PySem.F.type_list_append mt_append (pv 13) (pa_cons pe_non pa_nil)))))
    (pss_one (ps_ret (pe_and (pe_cmpR (op_eqD hr.units) (pe_callS (E := WE fun _ _ _ _ => False) GM (hr.mono (by decide)) rfl mM kM bM (fun σ => passAt takes0 σ) (pa_cons (pv 3) (pa_cons (pv 4) (pa_cons (pv 8) (pa_cons (pv 10) pa_nil))))) (pv 1) (nomark _)) (pe_one (pe_cmpR op_eq (pe_callB (call_reprV (room65 hr) hG) (by rfl) mRepr (by decide +kernel) (pa_cons (pe_lst (pa_cons (pv 3) (pa_cons (pv 4) (pa_cons (pv 8) (pa_cons (pv 10) pa_nil))))) pa_nil)) (pv 11) (nomark _))))))))))))), ?_⟩
  obtain ⟨t, ma, ca, ia, fa, rs, rfl, ht, hma, hca, hia, hfa, tp⟩ := id A0
  have un := fun {b : Addr} {o : HO} (e : del H g b = some o) => del_le b o e
  have ng : ∀ {b : Addr} {o : HO}, del H g b = some o → b ≠ g := fun e z => by rw [z] at e; simp [del] at e
  refine ⟨_, rfl, t, _, rfl, .inl (.inl (un ht)), rfl, _, _, rfl, _, _, rfl, _, _, rfl, _, _, rfl, _, _, rfl, rfl, ?_⟩
  -- the items, some twice
  have Gn := gen
  refine ⟨_, rfl, _, rfl, _, rfl, ia, rfl, ⟨_, SqL.of (un hia)⟩, fun D1 nD1 => lc_list (K := K) (a := ia) (xs := S.items.map V.int) (fun k H' => ∃ sub : List Int, H' D1 = some (.lst (sub.map V.int)) ∧ sub.length ≤ k ∧ (∀ i ∈ sub, i ∈ S.items) ∧ Keep g H H' ∧ Gen H' g (n + 3 * k))
    ⟨[], upd_same, Nat.le_refl _, fun _ h => (by cases h), Keep.of_same (same_new nD1), (gen.same (same_new nD1)).mono (by omega)⟩ (fun k H' _ hP => ?_) (fun k x H' hx hP => ?_) fun H1 hP => ?_⟩
  · obtain ⟨sub, eD, _, _, kp, _⟩ := hP
    exact SqL.of (kp _ _ (ng hia) (un hia))
  · obtain ⟨sub, eD, ls, al, kp, gn⟩ := hP
    obtain ⟨it, hit, rfl⟩ := at_map hx
    have nDg : D1 ≠ g := gen.ne nD1
    have hk : k < S.items.length := (List.getElem?_eq_some_iff.mp hit).1
    have few := D.few
    refine ⟨rfl, _, rfl, g, 3, _, rfl, gn, by decide, by decide, by omega, fun r H2 r0 r1 gn2 b2 => ⟨rfl, _, rfl, ite2 (fun c => ?_) fun c => ?_⟩⟩
    · have eD2 : H2 D1 = some (.lst (sub.map V.int)) := (b2 D1 nDg).trans eD
      refine ⟨_, rfl, _, eD2, small1000 (by rw [List.length_map]; omega), sub ++ [it], by rw [upd_same, List.map_append]; rfl, by rw [List.length_append, List.length_singleton]; omega, fun i hi => ?_, (kp.trans (Keep.of_but b2)).upd_new nD1, (gn2.upd nDg.symm).mono (by omega)⟩
      rcases List.mem_append.mp hi with z | z
      · exact al i z
      · rw [List.mem_singleton.mp z]; exact List.mem_of_getElem? hit
    · exact ⟨sub, (b2 D1 nDg).trans eD, by omega, al, kp.trans (Keep.of_but b2), gn2.mono (by omega)⟩
  obtain ⟨sub, eD1, ls1, al1, kp1, gn1⟩ := hP
  rw [List.length_map] at ls1 gn1
  have few := D.few
  refine ⟨ia, D1, _, _, rfl, rfl, kp1 _ _ (ng hia) (un hia), eD1, Nat.le_trans (show (S.items.map V.int).length + (sub.map V.int).length ≤ 1000 by rw [List.length_map, List.length_map]; omega) (by decide), fun p1 np1 => ?_⟩
  rw [← List.map_append]
  have m1 := same_new np1 (o := .lst ((S.items ++ sub).map V.int))
  have f1 : L2.upd H1 p1 (.lst ((S.items ++ sub).map V.int)) p1 = some (.lst ((S.items ++ sub).map V.int)) := upd_same
  have gn2 := gn1.same m1
  have p1g := gn1.ne np1
  have kp2 := kp1.trans (Keep.of_same m1)
  generalize L2.upd H1 p1 (.lst ((S.items ++ sub).map V.int)) = H2 at m1 f1 gn2 kp2 ⊢
  refine nil_read ?_
  show spOrderG K [.ref g, .ref p1] H2 _ _
  refine ⟨g, p1, (S.items ++ sub).map zI, _, rfl, by rw [zI_fst]; exact SqL.of f1, p1g, gn2, by rw [List.length_map, List.length_append]; omega, by rw [List.length_map, List.length_append]; omega, fun J _ z hz => ?_, fun ls hls => ?_, fun ps ms H3 pm k3 nps eps gn3 => ?_⟩
  · obtain ⟨i, _, rfl⟩ := List.mem_map.mp hz
    exact .int i
  · obtain ⟨ms, rfl⟩ := zI_all hls
    rw [zI_snd]; exact shaped_ints ms
  obtain ⟨ns, rfl, pmn⟩ := perm_map pm _ rfl
  rw [zI_fst] at eps
  rw [List.length_map, List.length_append] at gn3
  have hns : ∀ i, i ∈ ns ↔ i ∈ S.items := fun i => by
    rw [pmn.mem_iff, List.mem_append]
    exact ⟨fun h => h.elim id (al1 i), .inl⟩
  have lns : ns.length ≤ 24 := by rw [pmn.length_eq, List.length_append]; omega
  have kp3 := kp2.trans k3
  have psg := gn2.ne nps
  -- the facts, some twice
  have lf63 := facts_63 D
  have lrs : rs.length = S.facts.length := by rw [tp.length, List.length_map]
  have zin : ∀ z ∈ rs.zip S.facts, z.2 ∈ S.facts := fun z hz => (List.of_mem_zip hz).2
  have zat : ∀ {J : Hp}, Keep g H J → ∀ z ∈ rs.zip S.facts, ∃ a, z.1 = .ref a ∧ J a = some (.tup z.2.v) := fun {J} kp z hz => by
    obtain ⟨a, e, h⟩ := tp.zip z hz
    exact ⟨a, e, kp _ _ (ng h) (un h)⟩
  refine ⟨_, rfl, _, rfl, _, rfl, fa, rfl, ⟨_, SqL.of (kp3 _ _ (ng hfa) (un hfa))⟩, fun D2 nD2 => lc_list (K := K) (a := fa) (xs := rs) (fun k H' => ∃ sb : List (V × Fact), H' D2 = some (.lst (sb.map (·.1))) ∧ sb.length ≤ k ∧ (∀ z ∈ sb, z ∈ rs.zip S.facts) ∧ Keep g H3 H' ∧ Gen H' g (n + 144 + 3 * k))
    ⟨[], upd_same, Nat.le_refl _, fun _ h => (by cases h), Keep.of_same (same_new nD2), (gn3.same (same_new nD2)).mono (by omega)⟩ (fun k H' _ hP => ?_) (fun k x H' hx hP => ?_) fun H4 hP => ?_⟩
  · obtain ⟨sb, eD, _, _, kp, _⟩ := hP
    exact SqL.of (kp _ _ (ng hfa) (kp3 _ _ (ng hfa) (un hfa)))
  · obtain ⟨sb, eD, ls, al, kp, gn⟩ := hP
    have nDg : D2 ≠ g := gn3.ne nD2
    have hk : k < rs.length := (List.getElem?_eq_some_iff.mp hx).1
    obtain ⟨y, hy⟩ : ∃ y, S.facts[k]? = some y := ⟨_, List.getElem?_eq_getElem (by omega)⟩
    have hz : (rs.zip S.facts)[k]? = some (x, y) := List.getElem?_zip_eq_some.mpr ⟨hx, hy⟩
    refine ⟨rfl, _, rfl, g, 3, _, rfl, gn, by decide, by decide, by omega, fun r H5 r0 r1 gn5 b5 => ⟨rfl, _, rfl, ite2 (fun c => ?_) fun c => ?_⟩⟩
    · have eD5 : H5 D2 = some (.lst (sb.map (·.1))) := (b5 D2 nDg).trans eD
      refine ⟨_, rfl, _, eD5, small1000 (by rw [List.length_map]; omega), sb ++ [(x, y)], by rw [upd_same, List.map_append]; rfl, by rw [List.length_append, List.length_singleton]; omega, fun z hz' => ?_, (kp.trans (Keep.of_but b5)).upd_new nD2, (gn5.upd nDg.symm).mono (by omega)⟩
      rcases List.mem_append.mp hz' with h | h
      · exact al z h
      · rw [List.mem_singleton.mp h]; exact List.mem_of_getElem? hz
    · exact ⟨sb, (b5 D2 nDg).trans eD, by omega, al, kp.trans (Keep.of_but b5), gn5.mono (by omega)⟩
  obtain ⟨sb, eD2, ls2, al2, kp4, gn4⟩ := hP
  have kp4' := kp3.trans kp4
  refine ⟨fa, D2, _, _, rfl, rfl, kp4' _ _ (ng hfa) (un hfa), eD2, Nat.le_trans (show rs.length + (sb.map (·.1)).length ≤ 1000 by rw [List.length_map]; omega) (by decide), fun p2 np2 => ?_⟩
  have ex : rs ++ sb.map (·.1) = (rs.zip S.facts ++ sb).map (·.1) := by rw [List.map_append, List.map_fst_zip (Nat.le_of_eq lrs)]
  rw [ex]
  have m2 := same_new np2 (o := .lst ((rs.zip S.facts ++ sb).map (·.1)))
  have f2 : L2.upd H4 p2 (.lst ((rs.zip S.facts ++ sb).map (·.1))) p2 = some (.lst ((rs.zip S.facts ++ sb).map (·.1))) := upd_same
  have gn5 := gn4.same m2
  have p2g := gn4.ne np2
  have kp5 := kp4'.trans (Keep.of_same m2)
  have k45 := kp4.trans (Keep.of_same m2)
  generalize L2.upd H4 p2 (.lst ((rs.zip S.facts ++ sb).map (·.1))) = H5 at m2 f2 gn5 kp5 k45 ⊢
  have inZ : ∀ z ∈ rs.zip S.facts ++ sb, z ∈ rs.zip S.facts := fun z hz => (List.mem_append.mp hz).elim id (al2 z)
  have lz : (rs.zip S.facts).length ≤ 63 := by rw [List.length_zip]; omega
  refine nil_read ?_
  show spOrderG K [.ref g, .ref p2] H5 _ _
  refine ⟨g, p2, (rs.zip S.facts ++ sb).map zF, _, rfl, by rw [zF_fst]; exact SqL.of f2, p2g, gn5, by rw [List.length_map, List.length_append]; omega, by rw [List.length_map, List.length_append]; omega, fun J kJ z hz => ?_, fun ls hls => zF_shaped D fun z hz => ?_, fun pt ms H6 pm k6 npt ept gn6 => ?_⟩
  · obtain ⟨y, hy, rfl⟩ := List.mem_map.mp hz
    obtain ⟨a, e, h⟩ := zat (kp5.trans kJ) y (inZ y hy)
    show Dp K J y.1 y.2.d
    rw [e]; exact fact_dp h
  · obtain ⟨y, hy, e⟩ := List.mem_map.mp (hls z hz)
    exact ⟨y.2, zin y (inZ y hy), by rw [← e]; rfl⟩
  obtain ⟨zs, rfl, pmz⟩ := perm_map pm _ rfl
  rw [zF_fst] at ept
  rw [List.length_map, List.length_append] at gn6
  have kp6 := kp5.trans k6
  have tp6 : Tups H6 (zs.map (·.1)) ((zs.map (·.2)).map Fact.v) := tups_of zs fun z hz => zat kp6 z (inZ z (pmz.mem_iff.mp hz))
  have eps6 := k6 _ _ psg (k45 _ _ psg eps)
  have hfs : ∀ x, x ∈ zs.map (·.2) ↔ x ∈ S.facts := fun x => by
    constructor
    · intro h
      obtain ⟨z, hz, rfl⟩ := List.mem_map.mp h
      exact zin z (inZ z (pmz.mem_iff.mp hz))
    · intro h
      have z : x ∈ (rs.zip S.facts).map (·.2) := by rw [List.map_snd_zip (Nat.le_of_eq lrs.symm)]; exact h
      obtain ⟨y, hy, e⟩ := List.mem_map.mp z
      exact List.mem_map.mpr ⟨y, pmz.mem_iff.mpr (List.mem_append_left _ hy), e⟩
  have lzs : zs.length ≤ 126 := by rw [pmz.length_eq, List.length_append]; omega
  have A6 : StoAt H6 (.ref t) S := stoAt_same del_le (stoAt_same (keep_del kp6) A0)
  have hm6 := kp6 _ _ (ng hma) (un hma)
  have hc6 := kp6 _ _ (ng hca) (un hca)
  -- from here on nothing is drawn
  generalize hfsE : zs.map (·.2) = fs at tp6 hfs
  have lfs : fs.length ≤ 126 := by rw [← hfsE, List.length_map]; exact lzs
  generalize zs.map (·.1) = xs at ept tp6
  have shows4 := four_shows D (fun i hi => (hns i).mp hi) (by omega) (fun x hx => (hfs x).mp hx) (by omega)
  have sto := sm_store D (by decide)
  have askM : ∀ {J : Hp} {R : VK} {Ex : XK}, Same H6 J → (∀ v J', Same J J' → NewSto J J' v S → R v J') → spMake K CL CT CF [.ref ma, .ref ca, .ref ps, .ref pt] J R Ex := fun {J R Ex} s h => make_good D (s _ _ hm6) (s _ _ hc6) (s _ _ eps6) (s _ _ ept) (tp6.keep (tk_same s)) (by omega) (by omega) hns hfs h
  have four : ∀ {J : Hp} {p : Addr}, Same H6 J → J p = some (.lst [.ref ma, .ref ca, .ref ps, .ref pt]) → Dp K J (.ref p) (.list [.list (S.marks.map PyData.str), .list (S.columns.map PyData.str), .list (ns.map PyData.int), .list (fs.map Fact.d)]) := fun {J p} s h => .lst (SqL.of h) (.cons (.lst (SqL.of (s _ _ hm6)) (dp_texts _)) (.cons (.lst (SqL.of (s _ _ hc6)) (dp_texts _)) (.cons (.lst (SqL.of (s _ _ eps6)) (dp_intsL _)) (.cons (.lst (SqL.of (s _ _ ept)) (dp_facts (tp6.keep (tk_same s)))) .nil))))
  have sShow := sto.shows (by decide) (by decide)
  have sSh := sto.shaped (by decide)
  have sE := sto.eqv (by decide)
  generalize hk : (PyData.list [.list (S.marks.map PyData.str), .list (S.columns.map PyData.str), .list (ns.map PyData.int), .list (fs.map Fact.d)]) = four4 at four shows4
  clear hk
  refine ⟨.ref ma, rfl, .ref ca, rfl, .ref ps, rfl, .ref pt, rfl, by show 4 ≤ sizeLine; decide, fun k1 nk1 => ?_⟩
  have s1 := same_new nk1 (o := .lst [V.ref ma, .ref ca, .ref ps, .ref pt])
  refine ⟨.ref k1, four4, rfl, four s1 upd_same, shows4, ?_⟩
  generalize L2.upd H6 k1 (.lst [V.ref ma, .ref ca, .ref ps, .ref pt]) = H7 at s1 ⊢
  generalize hkept : four4.shown = kept
  refine ⟨.ref ma, rfl, .ref ca, rfl, .ref ps, rfl, .ref pt, rfl, ?_⟩
  refine nil_read ?_
  show spMake K CL CT CF [.ref ma, .ref ca, .ref ps, .ref pt] H7 _ _
  refine askM s1 fun mv H8 s8 N8 => ?_
  refine ⟨mv, rfl, mv, S.d, rfl, store_dp N8.at, sShow, ?_⟩
  generalize hsS : S.d.shown = sS
  have s18 := s1.trans s8
  refine ⟨.ref t, rfl, .ref t, S.d, rfl, store_dp (stoAt_same s18 A6), sShow, ?_⟩
  rw [hsS]
  refine ⟨rfl, false, by simp, iteF' rfl ?_⟩
  refine ⟨.ref pt, rfl, .ref ps, rfl, .ref ca, rfl, .ref ma, rfl, rfl, ?_⟩
  show spMake K CL CT CF [.ref ma, .ref ca, .ref ps, .ref pt] H8 _ _
  refine askM s18 fun mv2 H9 s9 N9 => ?_
  refine ⟨.ref t, rfl, S.d, S.d, store_dp N9.at, store_dp (stoAt_same (s18.trans s9) A6), sSh, sSh, false, by rw [sE]; rfl, iteF' rfl ?_⟩
  refine ⟨.ref ma, rfl, .ref ca, rfl, .ref ps, rfl, .ref pt, rfl, by show 4 ≤ sizeLine; decide, fun k2 nk2 => ?_⟩
  have s10 := same_new nk2 (o := .lst [V.ref ma, .ref ca, .ref ps, .ref pt])
  refine ⟨.ref k2, four4, rfl, four ((s18.trans s9).trans s10) upd_same, shows4, ?_⟩
  generalize L2.upd H9 k2 (.lst [V.ref ma, .ref ca, .ref ps, .ref pt]) = H10 at s10 ⊢
  rw [hkept]
  refine ⟨_, rfl, rfl, false, by simp, iteF' rfl ?_⟩
  have s8A := (s8.trans s9).trans s10
  refine parts_end (i := 13) (j := 12) (tv := mv) rfl (show 13 < 14 by decide) (N8.down (s9.trans s10)) s8A (by have := D.fewMarks; omega) (by have := D.fewColumns; omega) (by omega) (by omega) fun y H11 s11 => ?_
  have s1B := s1.trans s11
  refine ⟨.ref ma, rfl, .ref ca, rfl, .ref ps, rfl, .ref pt, rfl, ?_⟩
  refine nil_read ?_
  show spMake K CL CT CF [.ref ma, .ref ca, .ref ps, .ref pt] H11 _ _
  refine askM s1B fun mv3 H12 s12 N12 => ?_
  refine ⟨.ref t, rfl, S.d, S.d, store_dp N12.at, store_dp (stoAt_same (s1B.trans s12) A6), sSh, sSh, ?_⟩
  rw [sE]
  refine ⟨true, rfl, ?_⟩
  rw [if_pos rfl]
  refine ⟨.ref ma, rfl, .ref ca, rfl, .ref ps, rfl, .ref pt, rfl, by show 4 ≤ sizeLine; decide, fun k3 nk3 => ?_⟩
  have s13 := same_new nk3 (o := .lst [V.ref ma, .ref ca, .ref ps, .ref pt])
  refine ⟨.ref k3, four4, rfl, four ((s1B.trans s12).trans s13) upd_same, shows4, ?_⟩
  rw [hkept]
  refine ⟨_, rfl, rfl, ?_⟩
  rw [show decide (V.str kept = V.str kept) = true from decide_eq_true rfl]
  exact q _ (kp6.trans (Keep.of_same ((s1B.trans s12).trans s13))) ((gn6.same ((s1B.trans s12).trans s13)).mono (by omega))
end
end DQ

set_option Elab.async false
set_option linter.all false
set_option maxRecDepth 100000
set_option maxHeartbeats 1000000
namespace DQ
open PySem PySem.Spec PyProof.Rows L2
/-! ### data that is written down in a def: one promise for a whole literal -/
mutual
def Lit (H : Hp) : PyData → V → Prop
  | .none, v => v = .non
  | .bool b, v => v = .bl b
  | .int i, v => v = .int i
  | .str x, v => v = .str x
  | .list ds, v => ∃ (a : Addr) (xs : List V), v = .ref a ∧ H a = some (.lst xs) ∧ LitAll H ds xs
  | .tuple ds, v => ∃ (a : Addr) (xs : List V), v = .ref a ∧ H a = some (.tup xs) ∧ LitAll H ds xs
  | .dict kvs, v => kvs = [] ∧ ∃ a : Addr, v = .ref a ∧ H a = some (.dK [])
def LitAll (H : Hp) : List PyData → List V → Prop
  | [], xs => xs = []
  | d :: ds, xs => ∃ (v : V) (vs : List V), xs = v :: vs ∧ Lit H d v ∧ LitAll H ds vs
end
mutual
theorem lit_same {H H' : Hp} (e : Same H H') : ∀ (d : PyData) (v : V), Lit H d v → Lit H' d v
  | .none, _, h => by simpa only [Lit] using h
  | .bool b, _, h => by simpa only [Lit] using h
  | .int i, _, h => by simpa only [Lit] using h
  | .str x, _, h => by simpa only [Lit] using h
  | .list ds, _, h => by
    simp only [Lit] at h ⊢
    obtain ⟨a, xs, r, ha, hx⟩ := h
    exact ⟨a, xs, r, e _ _ ha, litAll_same e ds _ hx⟩
  | .tuple ds, _, h => by
    simp only [Lit] at h ⊢
    obtain ⟨a, xs, r, ha, hx⟩ := h
    exact ⟨a, xs, r, e _ _ ha, litAll_same e ds _ hx⟩
  | .dict kvs, _, h => by
    simp only [Lit] at h ⊢
    obtain ⟨z, a, r, ha⟩ := h
    exact ⟨z, a, r, e _ _ ha⟩
theorem litAll_same {H H' : Hp} (e : Same H H') : ∀ (ds : List PyData) (vs : List V), LitAll H ds vs → LitAll H' ds vs
  | [], _, h => by simpa only [LitAll] using h
  | d :: ds, _, h => by
    simp only [LitAll] at h ⊢
    obtain ⟨v, vs, r, h1, h2⟩ := h
    exact ⟨v, vs, r, lit_same e d _ h1, litAll_same e ds _ h2⟩
end
mutual
theorem lit_dp {K : PySem.W.Frag} {H : Hp} : ∀ (d : PyData) (v : V), Lit H d v → Dp K H v d
  | .none, _, h => by
    simp only [Lit] at h
    rw [h]
    exact .non
  | .bool b, _, h => by
    simp only [Lit] at h
    rw [h]
    exact .bl b
  | .int i, _, h => by
    simp only [Lit] at h
    rw [h]
    exact .int i
  | .str x, _, h => by
    simp only [Lit] at h
    rw [h]
    exact .str x
  | .list ds, _, h => by
    simp only [Lit] at h
    obtain ⟨a, xs, r, ha, hx⟩ := h
    rw [r]
    exact .lst (SqL.of ha) (litAll_dp ds _ hx)
  | .tuple ds, _, h => by
    simp only [Lit] at h
    obtain ⟨a, xs, r, ha, hx⟩ := h
    rw [r]
    exact .tup (.inl (.inl ha)) (litAll_dp ds _ hx)
  | .dict kvs, _, h => by
    simp only [Lit] at h
    obtain ⟨z, a, r, ha⟩ := h
    rw [z, r]
    exact .dct ha
theorem litAll_dp {K : PySem.W.Frag} {H : Hp} : ∀ (ds : List PyData) (vs : List V), LitAll H ds vs → DpAll K H vs ds
  | [], _, h => by
    simp only [LitAll] at h
    rw [h]
    exact .nil
  | d :: ds, _, h => by
    simp only [LitAll] at h
    obtain ⟨v, vs, r, h1, h2⟩ := h
    rw [r]
    exact .cons (lit_dp d _ h1) (litAll_dp ds _ h2)
end
theorem litAll_len {H : Hp} : ∀ {ds : List PyData} {vs : List V}, LitAll H ds vs → vs.length = ds.length
  | [], _, h => by
    simp only [LitAll] at h
    rw [h]
    rfl
  | d :: ds, _, h => by
    simp only [LitAll] at h
    obtain ⟨v, vs, r, h1, h2⟩ := h
    rw [r, List.length_cons, List.length_cons, litAll_len h2]
theorem litAll_get {H : Hp} : ∀ {ds : List PyData} {vs : List V} {k : Nat} {v : V}, LitAll H ds vs → vs[k]? = some v → ∃ d, ds[k]? = some d ∧ Lit H d v
  | [], _, _, _, h, e => by
    simp only [LitAll] at h
    rw [h] at e
    simp at e
  | d :: ds, _, 0, _, h, e => by
    simp only [LitAll] at h
    obtain ⟨v, vs, r, h1, h2⟩ := h
    rw [r] at e
    cases e
    exact ⟨d, rfl, h1⟩
  | d :: ds, _, k + 1, _, h, e => by
    simp only [LitAll] at h
    obtain ⟨v, vs, r, h1, h2⟩ := h
    rw [r] at e
    exact litAll_get (k := k) h2 (by simpa using e)
/-- a part of the heap (all of it, or all but one place), and what the slots and the heap say and go on saying -/
structure View (vw : L2.St → Hp → Hp) (Pre : L2.St → Hp → Prop) : Prop where
  same : ∀ σ H H', Same H H' → Same (vw σ H) (vw σ H')
  new : ∀ σ H p o, Pre σ H → H p = none → vw σ (upd H p o) p = some o
  steady : ∀ σ H H', Same H H' → Pre σ H → Pre σ H'
theorem view_all {Pre : L2.St → Hp → Prop} (s : ∀ σ H H', Same H H' → Pre σ H → Pre σ H') : View (fun _ H => H) Pre := ⟨fun _ _ _ s => s, fun _ _ _ _ _ _ => upd_same, s⟩
theorem same_del {F : Addr} {H H' : Hp} (s : Same H H') : Same (del H F) (del H' F) := fun b o e => by
  by_cases z : b = F
  · rw [z, del_same] at e
    cases e
  · rw [del_ne z] at e ⊢
    exact s b o e
/-- the place that a slot names -/
def slotA (i : Nat) (σ : L2.St) : Addr := match σ[i]? with
  | some (some (.ref a)) => a
  | _ => 0
theorem view_two {i : Nat} {g : Addr} {Pre : L2.St → Hp → Prop} (h : ∀ σ H, Pre σ H → H (slotA i σ) ≠ none ∧ H g ≠ none) (s : ∀ σ H H', Same H H' → Pre σ H → Pre σ H') : View (fun σ H => del (del H (slotA i σ)) g) Pre := ⟨fun _ _ _ s => same_del (same_del s), fun σ H p o q n => by
  show del (del (upd H p o) (slotA i σ)) g p = some o
  rw [del_ne (fun e => (h σ H q).2 (by rw [← e]; exact n)), del_ne (fun e => (h σ H q).1 (by rw [← e]; exact n)), upd_same], s⟩
theorem del_sub {F : Addr} {H : Hp} : Same (del H F) H := fun b o e => by
  by_cases z : b = F
  · rw [z, del_same] at e
    cases e
  · rwa [del_ne z] at e
/-- a literal: its data hangs on the slots alone -/
def tLit (vw : L2.St → Hp → Hp) (Pre : L2.St → Hp → Prop) (d : L2.St → PyData) : TE := fun σ H Q => Pre σ H ∧ ∀ v H', Same H H' → Lit (vw σ H') (d σ) v → Q v H'
def tLits (vw : L2.St → Hp → Hp) (Pre : L2.St → Hp → Prop) (ds : L2.St → List PyData) : TA := fun σ H Q => Pre σ H ∧ ∀ vs H', Same H H' → LitAll (vw σ H') (ds σ) vs → Q vs H'
theorem pe_mono {X : Cx} {e : Expr} {te te' : TE} (h : PE X e te) (m : ∀ σ H Q, te' σ H Q → te σ H Q) : PE X e te' := ⟨fun pins s σ H Q I q => h.run pins s σ H Q I (m σ H Q q)⟩
theorem pa_mono {X : Cx} {es : List Expr} {t t' : TA} (h : PA X es t) (m : ∀ σ H Q, t' σ H Q → t σ H Q) : PA X es t' := ⟨fun pos pins s σ H Q I q => h.run pos pins s σ H Q I (m σ H Q q)⟩
section
variable {X : Cx} {vw : L2.St → Hp → Hp} {Pre : L2.St → Hp → Prop} {pos : Pos}
theorem l_int {i : Int} {j} : PE X (.Constant (.int i) j pos) (tLit vw Pre fun _ => .int i) := pe_mono pe_int fun σ H Q h => h.2 _ H (L2.Same.refl H) (by simp only [Lit])
theorem l_bl {b : Bool} {j} : PE X (.Constant (.bool b) j pos) (tLit vw Pre fun _ => .bool b) := pe_mono pe_bl fun σ H Q h => h.2 _ H (L2.Same.refl H) (by simp only [Lit])
theorem l_non {j} : PE X (.Constant .none j pos) (tLit vw Pre fun _ => .none) := pe_mono pe_non fun σ H Q h => h.2 _ H (L2.Same.refl H) (by simp only [Lit])
theorem l_str {x : Str} {j} : PE X (.Constant (.str x) j pos) (tLit vw Pre fun _ => .str x) := pe_mono pe_str fun σ H Q h => h.2 _ H (L2.Same.refl H) (by simp only [Lit])
theorem l_neg {i : Int} {j pos'} : PE X (.UnaryOp .USub (.Constant (.int i) j pos') pos) (tLit vw Pre fun _ => .int (-i)) := pe_mono (pe_un un_neg pe_int) fun σ H Q h => ⟨i, rfl, h.2 _ H (L2.Same.refl H) (by simp only [Lit])⟩
/-- the int in a slot -/
def slotI (i : Nat) (σ : L2.St) : Int := match σ[i]? with
  | some (some (.int k)) => k
  | _ => 0
theorem l_ivar {x : Str} {i : Nat} (h : PE X (.Name x pos) (tVar i)) (m : ∀ σ H, Pre σ H → ∃ k, σ[i]? = some (some (.int k))) : PE X (.Name x pos) (tLit vw Pre fun σ => .int (slotI i σ)) := pe_mono h fun σ H Q q => by
  obtain ⟨k, e⟩ := m σ H q.1
  refine ⟨_, e, q.2 _ H (L2.Same.refl H) ?_⟩
  simp only [Lit, slotI]
  rw [e]
theorem l_pow {a b c : Int} {j1 j2 p1 p2} (h : 0 ≤ b ∧ a.natAbs ≤ 1000 ∧ b.toNat ≤ 100) (e : a ^ b.toNat = c) (pw : OpR X (binaryOp .Pow) (fun x y H Q => x = .int a ∧ y = .int b ∧ Q (.int c) H)) : PE X (.BinOp (.Constant (.int a) j1 p1) .Pow (.Constant (.int b) j2 p2) pos) (tLit vw Pre fun _ => .int c) := pe_mono (pe_op pw pe_int pe_int) fun σ H Q h => ⟨rfl, rfl, h.2 _ H (L2.Same.refl H) (by simp only [Lit])⟩
theorem l_dct (V : View vw Pre) : PE X (.Dict [] [] pos) (tLit vw Pre fun _ => .dict []) := pe_mono pe_dnewK fun σ H Q h p np => h.2 _ _ (same_new np) (by
  simp only [Lit]
  exact ⟨trivial, p, rfl, V.new σ H p _ h.1 np⟩)
theorem l_nil : PA X [] (tLits vw Pre fun _ => []) := pa_mono pa_nil fun σ H Q h => h.2 _ H (L2.Same.refl H) (by simp only [LitAll])
theorem l_cons (V : View vw Pre) {e : Expr} {es : List Expr} {d : L2.St → PyData} {ds : L2.St → List PyData} (he : PE X e (tLit vw Pre d)) (hr : PA X es (tLits vw Pre ds)) (hs : starEach (e :: es) X.env = (false, eval e X.env) :: starEach es X.env := by rfl) : PA X (e :: es) (tLits vw Pre fun σ => d σ :: ds σ) :=
  pa_mono (pa_cons he hr hs) fun σ H Q h => ⟨h.1, fun v H1 s1 l1 => ⟨V.steady _ _ _ s1 h.1, fun vs H2 s2 l2 => h.2 _ H2 (s1.trans s2) (by
    simp only [LitAll]
    exact ⟨v, vs, rfl, lit_same (V.same σ _ _ s2) _ _ l1, l2⟩)⟩⟩
theorem l_lst (V : View vw Pre) {es : List Expr} {ds : L2.St → List PyData} (h : PA X es (tLits vw Pre ds)) (few : ∀ σ, (ds σ).length ≤ 1000 := by intro _; exact Nat.le_of_ble_eq_true rfl) : PE X (.List es pos) (tLit vw Pre fun σ => .list (ds σ)) := pe_mono (pe_lst h) fun σ H Q q => ⟨q.1, fun vs H1 s1 l1 => ⟨by
    rw [litAll_len l1]
    exact Nat.le_trans (few σ) (by decide), fun p np => q.2 _ _ (s1.trans (same_new np)) (by
    simp only [Lit]
    exact ⟨p, vs, rfl, V.new σ H1 p _ (V.steady _ _ _ s1 q.1) np, litAll_same (V.same σ _ _ (same_new np)) _ _ l1⟩)⟩⟩
theorem l_tup (V : View vw Pre) {es : List Expr} {ds : L2.St → List PyData} {k} (h : PA X es (tLits vw Pre ds)) (few : ∀ σ, (ds σ).length ≤ 1000 := by intro _; exact Nat.le_of_ble_eq_true rfl) : PE X (.Tuple es k pos) (tLit vw Pre fun σ => .tuple (ds σ)) := pe_mono (pe_tup h) fun σ H Q q => ⟨q.1, fun vs H1 s1 l1 => ⟨by
    rw [litAll_len l1]
    exact Nat.le_trans (few σ) (by decide), fun p np => q.2 _ _ (s1.trans (same_new np)) (by
    simp only [Lit]
    exact ⟨p, vs, rfl, V.new σ H1 p _ (V.steady _ _ _ s1 q.1) np, litAll_same (V.same σ _ _ (same_new np)) _ _ l1⟩)⟩⟩
end
end DQ

set_option Elab.async false
set_option linter.all false
set_option maxRecDepth 100000
set_option maxHeartbeats 1000000
namespace DQ
open PySem PySem.Spec PyProof.Rows L2
/-! ### small data, dicts among it: what repr wants -/
structure SmZ (k n : Nat) (d : PyData) : Prop where
  dep : d.depth ≤ k
  wt : d.weight ≤ n
  sh : d.showable = true
  short : d.leavesShort 13 = true
theorem Sm.z {k n : Nat} {d : PyData} (h : Sm k n d) : SmZ k n d := ⟨h.dep, h.wt, h.sh, PyData.leavesShort_of_canLay0 13 d h.lay h.short⟩
theorem SmZ.mono {k n k' n' : Nat} {d : PyData} (h : SmZ k n d) (hk : k ≤ k') (hn : n ≤ n') : SmZ k' n' d := ⟨Nat.le_trans h.dep hk, Nat.le_trans h.wt hn, h.sh, h.short⟩
theorem SmZ.shows {k n : Nat} {d : PyData} (h : SmZ k n d) (hk : k ≤ 64) (hn : n ≤ 1048576) : ShowsZ d :=
  ⟨h.sh, Nat.le_trans h.dep hk, PyData.shown_fits (B := 13) (by decide) (by decide) h.short (Nat.le_trans h.wt (by simpa using hn))⟩
theorem smz_dct : SmZ 1 1 (.dict []) := ⟨by decide, by decide, rfl, rfl⟩
structure SmZL (k n : Nat) (ds : List PyData) : Prop where
  dep : PyData.depthAll ds ≤ k
  wt : PyData.weightAll ds ≤ n
  sh : PyData.showableAll ds = true
  short : PyData.leavesShortAll 13 ds = true
theorem smzl_nil {k : Nat} : SmZL k 0 [] := ⟨Nat.zero_le _, Nat.le_refl _, rfl, rfl⟩
theorem SmZ.cons {k j a b : Nat} {d : PyData} {ds : List PyData} (x : SmZ j a d) (r : SmZL k b ds) (hj : j ≤ k) : SmZL k (a + 1 + b) (d :: ds) := by
  refine ⟨?_, ?_, ?_, ?_⟩
  · simp only [PyData.depthAll]
    exact Nat.max_le.mpr ⟨Nat.le_trans x.dep hj, r.dep⟩
  · simp only [PyData.weightAll]
    have := x.wt
    have := r.wt
    omega
  · simp only [PyData.showableAll]
    rw [x.sh, r.sh]
    rfl
  · simp only [PyData.leavesShortAll]
    rw [x.short, r.short]
    rfl
theorem SmZL.list {k n : Nat} {ds : List PyData} (h : SmZL k n ds) : SmZ (k + 1) n (.list ds) := by
  refine ⟨?_, by simpa only [PyData.weight] using h.wt, by simpa only [PyData.showable] using h.sh, by simpa only [PyData.leavesShort] using h.short⟩
  simp only [PyData.depth]
  have := h.dep
  omega
theorem SmZL.tuple {k n : Nat} {ds : List PyData} (h : SmZL k n ds) : SmZ (k + 1) n (.tuple ds) := by
  refine ⟨?_, by simpa only [PyData.weight] using h.wt, by simpa only [PyData.showable] using h.sh, by simpa only [PyData.leavesShort] using h.short⟩
  simp only [PyData.depth]
  have := h.dep
  omega
theorem smz_pair {n m : Nat} {d e : PyData} (h : SmZ 60 n d) (h' : SmZ 60 m e) (hn : n + m ≤ 1000000) : ShowsZ (.list [d, e]) := ((h.cons (h'.cons smzl_nil (Nat.le_refl _)) (Nat.le_refl _)).list).shows (by decide) (by omega)
/-- data whose numbers are small, by a look -/
def tinyB (d : PyData) : Bool := decide (d.depth ≤ 60) && (decide (d.weight ≤ 1000) && (d.showable && d.leavesShort 13))
theorem tiny {d : PyData} (h : tinyB d = true) : SmZ 60 1000 d := by
  unfold tinyB at h
  simp only [Bool.and_eq_true, decide_eq_true_eq] at h
  exact ⟨h.1, h.2.1, h.2.2.1, h.2.2.2⟩
end DQ

set_option Elab.async false
set_option linter.all false
set_option maxRecDepth 100000
set_option maxHeartbeats 1000000
namespace DQ
open PySem PySem.Spec PyProof.Rows L2
/-! ### the calls that end in an error -/
theorem litAll_tups {H : Hp} : ∀ {fs : List Fact} {vs : List V}, LitAll H (fs.map Fact.d) vs → Tups H vs (fs.map Fact.v)
  | [], _, h => by
    simp only [List.map_nil, LitAll] at h
    rw [h]
    exact .nil
  | f :: fs, _, h => by
    simp only [List.map_cons, LitAll] at h
    obtain ⟨v, vs, r, h1, h2⟩ := h
    rw [r]
    refine .cons ?_ (litAll_tups h2)
    cases f with
    | mark m i =>
      simp only [Fact.d, Lit, LitAll] at h1
      obtain ⟨a, xs, e, ha, _, _, rfl, rfl, _, _, rfl, rfl, _, _, rfl, rfl, rfl⟩ := h1
      exact ⟨a, e, ha⟩
    | link c p q =>
      simp only [Fact.d, Lit, LitAll] at h1
      obtain ⟨a, xs, e, ha, _, _, rfl, rfl, _, _, rfl, rfl, _, _, rfl, rfl, _, _, rfl, rfl, rfl⟩ := h1
      exact ⟨a, e, ha⟩
def okWords : PyData → Bool
  | .list l => decide (l.length ≤ 1000) && l.all fun e => e.canLay0 && match e with
    | .str x => decide (x.length ≤ 1000)
    | _ => true
  | _ => true
def okItems : PyData → Bool
  | .list l => decide (l.length ≤ 5000) && l.all fun e => match e with
    | .str x => decide (x.length ≤ 1000)
    | _ => true
  | _ => true
theorem fits_words {d : PyData} (h : okWords d = true) : Fits d ∧ Lays d := by
  refine ⟨fun ds e => ?_, fun ds e z hz => ?_⟩
  · subst e
    have h : (decide (ds.length ≤ 1000) && ds.all fun e => e.canLay0 && match e with
      | .str x => decide (x.length ≤ 1000)
      | _ => true) = true := h
    rw [Bool.and_eq_true] at h
    refine ⟨Nat.le_trans (of_decide_eq_true h.1) (by decide), fun e he x ex => ?_⟩
    have z := List.all_eq_true.mp h.2 e he
    rw [ex] at z
    rw [Bool.and_eq_true] at z
    exact of_decide_eq_true z.2
  · subst e
    have h : (decide (ds.length ≤ 1000) && ds.all fun e => e.canLay0 && match e with
      | .str x => decide (x.length ≤ 1000)
      | _ => true) = true := h
    rw [Bool.and_eq_true] at h
    have q := List.all_eq_true.mp h.2 z hz
    rw [Bool.and_eq_true] at q
    exact q.1
theorem fits_items {d : PyData} (h : okItems d = true) : Fits d := fun ds e => by
  subst e
  have h : (decide (ds.length ≤ 5000) && ds.all fun e => match e with
    | .str x => decide (x.length ≤ 1000)
    | _ => true) = true := h
  rw [Bool.and_eq_true] at h
  refine ⟨Nat.le_trans (of_decide_eq_true h.1) (by decide), fun e he x ex => ?_⟩
  have z := List.all_eq_true.mp h.2 e he
  rw [ex] at z
  exact of_decide_eq_true z
section
variable {K : PySem.W.Frag} {H : Hp} {CL CT CF : Addr}
theorem ends_marks {vm vc vi vf : V} {dm : PyData} (hm : Dp K H vm dm) (f : Fits dm ∧ Lays dm) (w : wordsD 4 dm = false) : EndsIn K CL CT CF [vm, vc, vi, vf] H CL vm := fun H1 Q E s t =>
  ⟨vm, vc, vi, vf, dm, .none, .none, .none, rfl, dp_same s _ _ hm, f.1, f.2, fun _ => t, fun e => absurd e (by rw [w]; exact Bool.noConfusion)⟩
theorem ends_columns {vm vc vi vf : V} {dm dc : PyData} (hm : Dp K H vm dm) (f : Fits dm ∧ Lays dm) (w : wordsD 4 dm = true) (hc : Dp K H vc dc) (fc : Fits dc ∧ Lays dc) (wc : columnsD (texts (listD dm)) dc = false) : EndsIn K CL CT CF [vm, vc, vi, vf] H CL vc := fun H1 Q E s t =>
  ⟨vm, vc, vi, vf, dm, dc, .none, .none, rfl, dp_same s _ _ hm, f.1, f.2, fun e => absurd e (by rw [w]; exact Bool.noConfusion), fun _ => ⟨dp_same s _ _ hc, fc.1, fc.2, fun _ => t, fun e => absurd e (by rw [wc]; exact Bool.noConfusion)⟩⟩
theorem ends_items {vm vc vi vf : V} {dm dc di : PyData} (hm : Dp K H vm dm) (f : Fits dm ∧ Lays dm) (w : wordsD 4 dm = true) (hc : Dp K H vc dc) (fc : Fits dc ∧ Lays dc) (wc : columnsD (texts (listD dm)) dc = true) (hi : Dp K H vi di) (fi : Fits di) (wi : numsD di = false) : EndsIn K CL CT CF [vm, vc, vi, vf] H CL vi := fun H1 Q E s t =>
  ⟨vm, vc, vi, vf, dm, dc, di, .none, rfl, signs_good (dp_same s _ _ hm) f w (dp_same s _ _ hc) fc wc fun H2 s2 => ⟨dp_same (s.trans s2) _ _ hi, fi, fun _ H3 s3 => t H3 (s2.trans s3), fun e => absurd e (by rw [wi]; exact Bool.noConfusion)⟩⟩
theorem ends_facts {vm vc vi vf : V} {dm dc di df : PyData} (hm : Dp K H vm dm) (f : Fits dm ∧ Lays dm) (w : wordsD 4 dm = true) (hc : Dp K H vc dc) (fc : Fits dc ∧ Lays dc) (wc : columnsD (texts (listD dm)) dc = true) (hi : Dp K H vi di) (fi : Fits di) (wi : numsD di = true) (hf : Dp K H vf df) (wf : isT "list" df = false) : EndsIn K CL CT CF [vm, vc, vi, vf] H CL vf := fun H1 Q E s t =>
  ⟨vm, vc, vi, vf, dm, dc, di, df, rfl, signs_good (dp_same s _ _ hm) f w (dp_same s _ _ hc) fc wc fun H2 s2 => ⟨dp_same (s.trans s2) _ _ hi, fi, fun e => absurd e (by rw [wi]; exact Bool.noConfusion), fun _ => ⟨dp_same (s.trans s2) _ _ hf, fun _ H3 s3 => t H3 (s2.trans s3), fun e => absurd e (by rw [wf]; exact Bool.noConfusion)⟩⟩⟩
theorem ends_made {ma ca ia fa : Addr} {ms cs : List Str} {ns : List Int} {xs : List V} {ds : List PyData} {C : Addr} {bad : V} (hm : H ma = some (.lst (ms.map V.str))) (hc : H ca = some (.lst (cs.map V.str))) (hi : H ia = some (.lst (ns.map V.int))) (hf : H fa = some (.lst xs)) (hd : DpAll K H xs ds)
    (fm : Fits (.list (ms.map PyData.str)) ∧ Lays (.list (ms.map PyData.str))) (wm : wordsD 4 (.list (ms.map PyData.str)) = true) (sm : SeqAt.shaped (.list (ms.map PyData.str)) = true) (fc : Fits (.list (cs.map PyData.str)) ∧ Lays (.list (cs.map PyData.str))) (wc : columnsD ms (.list (cs.map PyData.str)) = true) (sc : SeqAt.shaped (.list (cs.map PyData.str)) = true)
    (ln : ns.length ≤ 10000) (wi : numsD (.list (ns.map PyData.int)) = true) (ld : ds.length ≤ 10000) (pa : ∀ d ∈ ds, Parts d) (lm : ms.length ≤ 1000) (lc : cs.length ≤ 1000)
    (ask : ∀ (H2 : Hp) (Q : VK) (E : XK), Same H H2 → (∀ H', Same H2 H' → Throws E C bad H') → MakeAsk CT CF ms cs ns xs ds H2 Q E) : EndsIn K CL CT CF [.ref ma, .ref ca, .ref ia, .ref fa] H C bad := fun H1 Q E s t => by
  refine ⟨_, _, _, _, .list (ms.map PyData.str), .list (cs.map PyData.str), .list (ns.map PyData.int), .list ds, rfl, signs_good (.lst (SqL.of (s _ _ hm)) (dp_texts _)) fm wm (.lst (SqL.of (s _ _ hc)) (dp_texts _)) fc (by show columnsD (texts (ms.map PyData.str)) _ = true; rw [texts_strs]; exact wc) fun H2 s2 => rest_good (.lst (SqL.of ((s.trans s2) _ _ hi)) (dp_intsL _)) (ints_fit ln) wi (.lst (SqL.of ((s.trans s2) _ _ hf)) (dpAll_same (s.trans s2) _ _ hd)) (list_is _) fun H3 s3 => ?_⟩
  have z := (s.trans s2).trans s3
  exact ⟨ma, ca, ia, fa, ms, cs, ns, xs, ds, rfl, rfl, rfl, rfl, SqL.of (z _ _ hm), SqL.of (z _ _ hc), sm, sc, SqL.of (z _ _ hi), ln, SqL.of (z _ _ hf), dpAll_same z _ _ hd, ld, pa, lm, lc, ask H3 Q E z fun H' s' => t H' ((s2.trans s3).trans s')⟩
theorem flag_of {k : Nat} {C : Addr} (nd : [CL, CT, CF].Nodup) (h : [CL, CT, CF][k]? = some C) : flag3 C CL CT CF = (at3 k).map V.bl := by
  simp only [List.nodup_cons, List.mem_cons, List.not_mem_nil, or_false, not_or, List.nodup_nil, and_true, not_false_eq_true] at nd
  obtain ⟨⟨n1, n2⟩, n3⟩ := nd
  match k, h with
  | 0, h => cases h; simp [flag3, at3, n1, n2]; rfl
  | 1, h => cases h; simp [flag3, at3, Ne.symm n1, n3]; rfl
  | 2, h => cases h; simp [flag3, at3, Ne.symm n2, Ne.symm n3]; rfl
  | k + 3, h => simp at h
end
end DQ

set_option Elab.async false
set_option linter.all false
set_option maxRecDepth 100000
set_option maxHeartbeats 1000000
namespace DQ
open PySem PySem.Spec PyProof.Rows L2
/-! ### how a call with written arguments ends, reckoned on data -/
def firstNo (ms cs : List Str) (ns : List Int) (ds : List PyData) : Option Nat := (List.range ds.length).find? fun i => match ds[i]? with
  | some d => !isFactD ms cs ns d
  | none => false
def firstClash (fs : List Fact) : Option Nat := (List.range fs.length).find? fun i => match fs[i]? with
  | some y => (fs.take i).any fun x => clashes x y
  | none => false
def endOf (dm dc di df : PyData) : Option (Nat × PyData) :=
  if wordsD 4 dm = false then some (0, dm) else if columnsD (texts (listD dm)) dc = false then some (0, dc) else if numsD di = false then some (0, di) else if isT "list" df = false then some (0, df) else
    match firstNo (texts (listD dm)) (texts (listD dc)) (intsD (listD di)) (listD df) with
    | some i => ((listD df)[i]?).map fun d => (2, d)
    | none => match firstClash (factsD (listD df)) with
      | some i => ((listD df)[i]?).map fun d => (2, d)
      | none => none
def partsB : PyData → Bool
  | .tuple ds => (ds.take 2).all SeqAt.shaped
  | _ => true
def okAll (dm dc di df : PyData) : Bool := okWords dm && (okWords dc && (okItems di && ((listD df).all partsB && (decide ((intsD (listD di)).length ≤ 2000) && (decide ((listD df).length ≤ 1000) && (SeqAt.shaped (.list ((texts (listD dm)).map PyData.str)) && (SeqAt.shaped (.list ((texts (listD dc)).map PyData.str)) && (decide ((texts (listD dm)).length ≤ 1000) && (decide ((texts (listD dc)).length ≤ 1000) && (factsD (listD df)).all fun x => PyData.canLay0 (.str x.word))))))))))
theorem nums_ints : ∀ {ds : List PyData}, ds.all numD = true → ds = (intsD ds).map PyData.int
  | [], _ => rfl
  | d :: ds, h => by
    rw [List.all_cons, Bool.and_eq_true] at h
    have ih := nums_ints h.2
    cases d with
    | int i =>
      show PyData.int i :: ds = ((PyData.int i :: ds).filterMap intD).map PyData.int
      rw [List.filterMap_cons_some (f := intD) (a := .int i) (b := i) rfl, List.map_cons]
      exact congrArg (PyData.int i :: ·) ih
    | _ => exact absurd h.1 (by simp [numD])
theorem facts_all {ms cs : List Str} {ns : List Int} : ∀ {ds : List PyData}, (∀ d ∈ ds, isFactD ms cs ns d = true) → ds = (factsD ds).map Fact.d
  | [], _ => rfl
  | d :: ds, h => by
    obtain ⟨x, e, ex, _⟩ := isFact_fact (h d List.mem_cons_self)
    have ih := facts_all (ds := ds) fun y hy => h y (List.mem_cons_of_mem _ hy)
    show d :: ds = ((d :: ds).filterMap factD).map Fact.d
    rw [List.filterMap_cons_some (f := factD) (a := d) (b := x) ex, List.map_cons, ← e]
    exact congrArg (d :: ·) ih
theorem clash_before {fs : List Fact} {i : Nat} (h : ∀ j, j < i → ∀ y, fs[j]? = some y → ((fs.take j).any fun x => clashes x y) = false) : ∀ j, j ≤ i → NoClash (fs.take j)
  | 0, _ => fun x hx => by simp at hx
  | j + 1, hj => by
    have ih := clash_before h j (by omega)
    cases e : fs[j]? with
    | none => rw [List.take_of_length_le (by have := List.getElem?_eq_none_iff.mp e; omega)]; rw [List.take_of_length_le (by have := List.getElem?_eq_none_iff.mp e; omega)] at ih; exact ih
    | some y =>
      rw [take_next e]
      refine noClash_snoc ih fun x hx => ?_
      have z := h j (by omega) y e
      rw [List.any_eq_false] at z
      exact Bool.eq_false_iff.mpr (z x hx)
theorem lit_dpL {K : PySem.W.Frag} {H : Hp} {d : PyData} {v : V} (l : Lit H d v) : Dp K H v d := lit_dp d v l
theorem lit_texts {H : Hp} {ds : List PyData} {v : V} (l : Lit H (.list ds) v) : ∃ a xs, v = .ref a ∧ H a = some (.lst xs) ∧ LitAll H ds xs := by simpa only [Lit] using l
theorem ends_lit {K : PySem.W.Frag} {H : Hp} {CL CT CF : Addr} {dm dc di df : PyData} {vm vc vi vf : V} (lm : Lit H dm vm) (lc : Lit H dc vc) (li : Lit H di vi) (lf : Lit H df vf) (ok : okAll dm dc di df = true) {k : Nat} {d : PyData} (e : endOf dm dc di df = some (k, d)) :
    ∃ C bad, [CL, CT, CF][k]? = some C ∧ EndsIn K CL CT CF [vm, vc, vi, vf] H C bad ∧ Lit H d bad := by
  unfold okAll at ok
  simp only [Bool.and_eq_true, decide_eq_true_eq] at ok
  obtain ⟨o1, o2, o3, o4, o5, o6, o7, o8, o9, o10, o11⟩ := ok
  have f1 := fits_words o1
  have f2 := fits_words o2
  have f3 := fits_items o3
  unfold endOf at e
  by_cases c1 : wordsD 4 dm = false
  · rw [if_pos c1] at e
    cases e
    exact ⟨CL, vm, rfl, ends_marks (lit_dpL lm) f1 c1, lm⟩
  rw [if_neg c1] at e
  have c1 : wordsD 4 dm = true := by simpa using c1
  by_cases c2 : columnsD (texts (listD dm)) dc = false
  · rw [if_pos c2] at e
    cases e
    exact ⟨CL, vc, rfl, ends_columns (lit_dpL lm) f1 c1 (lit_dpL lc) f2 c2, lc⟩
  rw [if_neg c2] at e
  have c2 : columnsD (texts (listD dm)) dc = true := by simpa using c2
  by_cases c3 : numsD di = false
  · rw [if_pos c3] at e
    cases e
    exact ⟨CL, vi, rfl, ends_items (lit_dpL lm) f1 c1 (lit_dpL lc) f2 c2 (lit_dpL li) f3 c3, li⟩
  rw [if_neg c3] at e
  have c3 : numsD di = true := by simpa using c3
  by_cases c4 : isT "list" df = false
  · rw [if_pos c4] at e
    cases e
    exact ⟨CL, vf, rfl, ends_facts (lit_dpL lm) f1 c1 (lit_dpL lc) f2 c2 (lit_dpL li) f3 c3 (lit_dpL lf) c4, lf⟩
  rw [if_neg c4] at e
  have c4 : isT "list" df = true := by simpa using c4
  obtain ⟨l1, rfl, w1⟩ := wordsD_list c1
  have c3' := c2
  obtain ⟨l2, rfl, w2⟩ : ∃ l2, dc = .list l2 ∧ l2.all wordD = true := by
    cases q : wordsD 2 dc with
    | true => exact wordsD_list q
    | false => rw [columns_no q] at c2; exact nomatch c2
  obtain ⟨l3, rfl⟩ : ∃ l3, di = .list l3 := by
    cases di with
    | list l => exact ⟨l, rfl⟩
    | _ => exact absurd c3 (by simp [numsD])
  obtain ⟨l4, rfl⟩ : ∃ l4, df = .list l4 := by
    cases df with
    | list l => exact ⟨l, rfl⟩
    | _ => exact absurd c4 (by simp only [isT, tyN]; decide)
  have e1 := texts_data w1
  have e2 := texts_data w2
  have e3 := nums_ints (show l3.all numD = true from c3)
  change (match firstNo (texts l1) (texts l2) (intsD l3) l4 with
    | some i => (l4[i]?).map fun d => (2, d)
    | none => match firstClash (factsD l4) with
      | some i => (l4[i]?).map fun d => (2, d)
      | none => none) = some (k, d) at e
  obtain ⟨ma, x1, rfl, hm, a1⟩ := lit_texts lm
  obtain ⟨ca, x2, rfl, hc, a2⟩ := lit_texts lc
  obtain ⟨ia, x3, rfl, hi, a3⟩ := lit_texts li
  obtain ⟨fa, x4, rfl, hf, a4⟩ := lit_texts lf
  have y1 := (texts_all (litAll_dp (K := K) _ _ a1) w1).1
  have y2 := (texts_all (litAll_dp (K := K) _ _ a2) w2).1
  have y3 : x3 = (intsD l3).map V.int := by
    have gen : ∀ (ns : List Int) (xs : List V), LitAll H (ns.map PyData.int) xs → xs = ns.map V.int := fun ns => by
      induction ns with
      | nil => intro xs h; simpa only [List.map_nil, LitAll] using h
      | cons n ns ih =>
        intro xs h
        simp only [List.map_cons, LitAll, Lit] at h
        obtain ⟨v, vs, r, h1, h2⟩ := h
        rw [r, h1, ih vs h2, List.map_cons]
    rw [e3] at a3
    exact gen _ _ a3
  rw [y1] at hm
  rw [y2] at hc
  rw [y3] at hi
  change okWords (.list l1) = true at o1
  rw [e1] at f1 c1
  rw [e2] at f2
  have c2' : columnsD (texts l1) (.list ((texts l2).map PyData.str)) = true := by rw [← e2]; exact c2
  have c3'' : numsD (.list ((intsD l3).map PyData.int)) = true := by rw [← e3]; exact c3
  have o5' : (intsD l3).length ≤ 2000 := o5
  have on2 := Nat.le_trans (onces_facts _ (intsD l3) rfl).2.2 o5'
  have parts : ∀ d ∈ l4, Parts d := fun d hd ds e z hz => by
    have q := List.all_eq_true.mp o4 d hd
    rw [e] at q
    exact List.all_eq_true.mp q z hz
  have mk := fun {C : Addr} {bad : V} (ask) => ends_made (K := K) (CL := CL) (CT := CT) (CF := CF) (C := C) (bad := bad) hm hc hi hf (litAll_dp _ _ a4) f1 c1 o7 f2 c2' o8 (by omega) c3'' (Nat.le_trans o6 (by decide)) parts o9 o10 ask
  cases q : firstNo (texts l1) (texts l2) (intsD l3) l4 with
  | some i =>
    rw [q] at e
    dsimp only at e
    unfold firstNo at q
    obtain ⟨p1, p2, p3⟩ := List.find?_range_eq_some.mp q
    have hi4 : i < l4.length := List.mem_range.mp p2
    obtain ⟨d', hd'⟩ : ∃ d', l4[i]? = some d' := ⟨_, List.getElem?_eq_getElem hi4⟩
    rw [hd'] at e p1
    cases e
    obtain ⟨v, hv⟩ : ∃ v, x4[i]? = some v := ⟨_, List.getElem?_eq_getElem (by rw [litAll_len a4]; exact hi4)⟩
    obtain ⟨d2, hd2, lv⟩ := litAll_get a4 hv
    rw [hd'] at hd2
    cases hd2
    refine ⟨CF, v, rfl, mk fun H2 Q E s t => .wrong on2 i v _ hv hd' (fun j hj d3 h3 => ?_) (by simpa using p1) t, lv⟩
    have z := p3 j hj
    rw [h3] at z
    simpa using z
  | none =>
    rw [q] at e
    unfold firstNo at q
    have allok : ∀ d ∈ l4, isFactD (texts l1) (texts l2) (intsD l3) d = true := fun d hd => by
      obtain ⟨i, hi4⟩ := List.getElem?_of_mem hd
      have z := List.find?_eq_none.mp q i (List.mem_range.mpr (List.getElem?_eq_some_iff.mp hi4).1)
      rw [hi4] at z
      simpa using z
    have e4 := facts_all allok
    have o11' : (factsD l4).all (fun x => PyData.canLay0 (.str x.word)) = true := o11
    generalize hfs : factsD l4 = fs at e e4 o11'
    cases q2 : firstClash fs with
    | none => rw [q2] at e; cases e
    | some i =>
      rw [q2] at e
      dsimp only at e
      unfold firstClash at q2
      obtain ⟨p1, p2, p3⟩ := List.find?_range_eq_some.mp q2
      have hif : i < fs.length := List.mem_range.mp p2
      obtain ⟨y, hy⟩ : ∃ y, fs[i]? = some y := ⟨_, List.getElem?_eq_getElem hif⟩
      have hd' : l4[i]? = some y.d := by rw [e4, List.getElem?_map, hy]; rfl
      rw [hd'] at e
      cases e
      rw [hy] at p1
      have bef : ∀ j, j < i → ∀ z, fs[j]? = some z → ((fs.take j).any fun x => clashes x z) = false := fun j hj z hz => by
        have w := p3 j hj
        rw [hz] at w
        simpa using w
      have hi4 : i < l4.length := (List.getElem?_eq_some_iff.mp hd').1
      obtain ⟨v, hv⟩ : ∃ v, x4[i]? = some v := ⟨_, List.getElem?_eq_getElem (by rw [litAll_len a4]; exact hi4)⟩
      obtain ⟨d2, hd2, lv⟩ := litAll_get a4 hv
      rw [hd'] at hd2
      cases hd2
      obtain ⟨x0, hx0, cx0⟩ := List.any_eq_true.mp p1
      refine ⟨CF, v, rfl, mk fun H2 Q E s t => .twice on2 allok fs e4 ((litAll_tups (by rw [← e4]; exact a4)).keep (tk_same s)) (fun x hx => List.all_eq_true.mp o11' x hx) (fun nc => ?_) (fun j z u H' s' hz hu nc cl => ?_), lv⟩
      · rw [nc x0 (List.mem_of_mem_take hx0) y (List.mem_of_getElem? hy)] at cx0; cases cx0
      · have ej : j = i := by
          rcases Nat.lt_trichotomy j i with w | w | w
          · obtain ⟨x, hx, cx⟩ := cl
            have b := bef j w z hz
            rw [List.any_eq_false] at b
            exact absurd cx (b x hx)
          · exact w
          · have m : y ∈ fs.take j := List.mem_of_getElem? (i := i) (by rw [List.getElem?_take, if_pos w]; exact hy)
            have m0 : x0 ∈ fs.take j := by
              have z := List.take_take (i := i) (j := j) (l := fs)
              rw [Nat.min_eq_left (Nat.le_of_lt w)] at z
              rw [← z] at hx0
              exact List.mem_of_mem_take hx0
            rw [nc x0 m0 y m] at cx0; cases cx0
        rw [ej, hv] at hu
        cases hu
        exact t H' s'
end DQ

set_option Elab.async false
set_option linter.all false
set_option maxRecDepth 100000
set_option maxHeartbeats 1000000
namespace DQ
open PySem PySem.Spec PyProof.Rows L2
/-! ### if not _law_only(_law_caught(..), k, bad): return False -/
section
variable {K : PySem.W.Frag} {CL CT CF : Addr}
/-- what _law_caught tells: the k-th kind alone, and the value -/
def ToldAt (K : PySem.W.Frag) (H : Hp) (v : V) (k : Nat) (d : PyData) : Prop := ∃ T L bad, v = .ref T ∧ H T = some (.tup [.ref L, bad]) ∧ H L = some (.lst ((at3 k).map V.bl)) ∧ Dp K H bad d
theorem caught_told {H : Hp} {R : VK} {E : XK} {vm vc vi vf : V} {dm dc di df : PyData} {C : Addr} {bad : V} {k : Nat} {d : PyData} (nd : [CL, CT, CF].Nodup) (hm : Dp K H vm dm) (hc : Dp K H vc dc) (hi : Dp K H vi di) (hf : Dp K H vf df) (sh : ShowsZ (.list [dm, dc, di, df])) (hk : [CL, CT, CF][k]? = some C)
    (e : EndsIn K CL CT CF [vm, vc, vi, vf] H C bad) (hb : Dp K H bad d) (r : ∀ v H', Same H H' → ToldAt K H' v k d → R v H') : spCaught K CL CT CF [vm, vc, vi, vf] H R E :=
  ⟨vm, vc, vi, vf, dm, dc, di, df, C, bad, rfl, hm, hc, hi, hf, sh, List.mem_of_getElem? hk, e, fun T L H' s eT eL => r _ H' s ⟨T, L, bad, rfl, eT, by rw [← flag_of nd hk]; exact eL, dp_same s _ _ hb⟩⟩
theorem only_told {H : Hp} {Q : VK} {E : XK} {v z : V} {k : Nat} {d : PyData} (t : ToldAt K H v k d) (hz : Dp K H z d) (sh : ShowsZ d) (q : ∀ H', Same H H' → Q (.bl true) H') : spOnly K [v, .int (k : Nat), z] H Q E := by
  obtain ⟨T, L, bad, rfl, eT, eL, hb⟩ := t
  exact ⟨T, L, bad, z, d, k, rfl, eT, eL, hb, hz, sh, q⟩
theorem ToldAt.same {H H' : Hp} {v : V} {k : Nat} {d : PyData} (t : ToldAt K H v k d) (s : Same H H') : ToldAt K H' v k d := by
  obtain ⟨T, L, bad, e, eT, eL, hb⟩ := t
  exact ⟨T, L, bad, e, s _ _ eT, s _ _ eL, dp_same s _ _ hb⟩
/-- the same of written arguments -/
theorem caught_lit {H : Hp} {R : VK} {E : XK} {vm vc vi vf : V} {dm dc di df : PyData} {k : Nat} {d : PyData} (nd : [CL, CT, CF].Nodup) (hm : Lit H dm vm) (hc : Lit H dc vc) (hi : Lit H di vi) (hf : Lit H df vf) (sh : tinyB (.list [dm, dc, di, df]) = true) (ok : okAll dm dc di df = true) (e : endOf dm dc di df = some (k, d))
    (r : ∀ v H', Same H H' → ToldAt K H' v k d → R v H') : spCaught K CL CT CF [vm, vc, vi, vf] H R E := by
  obtain ⟨C, bad, hk, en, hb⟩ := ends_lit (K := K) (CL := CL) (CT := CT) (CF := CF) hm hc hi hf ok e
  exact caught_told nd (lit_dpL hm) (lit_dpL hc) (lit_dpL hi) (lit_dpL hf) ((tiny sh).shows (by decide) (by decide)) hk en (lit_dpL hb) r
theorem if_only {te : TE} {D : Ends} {σ : L2.St} {H : Hp} (h : ∀ R : VK, (∀ H', Same H H' → R (.bl true) H') → te σ H R) (q : ∀ H', Same H H' → D.nx σ H') : tIfS (tNot (tB te)) (tRet (tC (.bl false))) tNext D σ H :=
  h _ fun H' s => ⟨true, rfl, iteF' rfl (q H' s)⟩
theorem op_powC {X : Cx} {a b c : Int} (h : 0 ≤ b ∧ a.natAbs ≤ 1000 ∧ b.toNat ≤ 100) (e : a ^ b.toNat = c) : OpR X (binaryOp .Pow) (fun x y H Q => x = .int a ∧ y = .int b ∧ Q (.int c) H) := opr_mono op_pow fun x y H Q ⟨hx, hy, q⟩ => ⟨a, b, hx, hy, ⟨h.1, by omega, Nat.lt_of_le_of_lt h.2.1 (by decide)⟩, by show Q (.int (a ^ b.toNat)) H; rw [e]; exact q⟩
theorem view0 : View (fun _ H => H) (fun _ _ => True) := view_all fun _ _ _ _ _ => trivial
theorem l_of {X : Cx} {vw : L2.St → Hp → Hp} {Pre : L2.St → Hp → Prop} {e : Expr} {te : TE} {d : L2.St → PyData} (h : PE X e te) (m : ∀ σ H Q, Pre σ H → (∀ v H', Same H H' → Lit (vw σ H') (d σ) v → Q v H') → te σ H Q) : PE X e (tLit vw Pre d) := pe_mono h fun σ H Q q => m σ H Q q.1 q.2
end
end DQ

set_option Elab.async false
set_option linter.all false
set_option maxRecDepth 100000
set_option maxHeartbeats 4000000
namespace DQ
open PySem PySem.Spec PyProof.Rows L2
/-! ### _law_fact_refused -/
abbrev sFactRef : Stmt := topS 41
abbrev NFr : List Str := ["generator", "store", "sort", "marks", "columns", "items", "facts", "one", "wrong", "at", "bad", "twice", "rows", "below", "row"]
theorem scFactRef : FnScope NFr ["generator", "store"] (defScope sFactRef) := ⟨rfl, rfl, rfl, by decide +kernel, rfl, by decide +kernel, by decide +kernel⟩
def wrongD (i : Int) : List PyData := [.tuple [.str "mark", .str "gone", .int i], .tuple [.str "link", .str "next", .int i, .int 1000000001], .none, .list [.str "mark"], .tuple [.str "mark", .str "next", .int i], .tuple [], .int 7, .tuple [.str "link", .str "next", .int i]]
def twiceD : List PyData := [.tuple [.str "link", .str "next", .int 1, .int 2], .tuple [.str "link", .str "next", .int 2, .int 3], .tuple [.str "link", .str "next", .int 1, .int 2], .tuple [.str "link", .str "below", .int 1, .int 3], .tuple [.str "link", .str "next", .int 1, .int 3], .tuple [.str "link", .str "next", .int 3, .int 3]]
def belowD : List PyData := [.tuple [.str "link", .str "below", .int 1, .int 2], .tuple [.str "link", .str "below", .int 1, .int 3], .tuple [.str "link", .str "next", .int 1, .int 2], .tuple [.str "link", .str "next", .int 1, .int 3]]
def fiveD : List PyData := [.tuple [.str "mark", .str "red", .list [.int 1]], .tuple [.str "mark", .str "red", .dict []], .tuple [.str "link", .str "next", .int 1, .dict []], .tuple [.str "link", .str "next", .int 1, .bool true], .tuple [.str "link", .str "next", .bool true, .int 1]]
/-- the rows of facts that are asked, each with the first one that leads twice -/
def rowsD : List (PyData × PyData) := [(.list [.tuple [.str "link", .str "next", .int 2, .int 3], .tuple [.str "link", .str "next", .int 1, .int 3]], .tuple [.str "link", .str "next", .int 1, .int 3]), (.list [.tuple [.str "link", .str "next", .int 1, .int 2], .tuple [.str "link", .str "next", .int 3, .int 2], .tuple [.str "link", .str "next", .int 1, .int 4]], .tuple [.str "link", .str "next", .int 3, .int 2]), (.list belowD, .tuple [.str "link", .str "below", .int 1, .int 3]), (.list (belowD.drop 2 ++ belowD.take 2), .tuple [.str "link", .str "next", .int 1, .int 3])]
def vwG (σ : L2.St) (H : Hp) : Hp := del H (slotA 0 σ)
def PreW : L2.St → Hp → Prop := fun σ H => (∃ k, σ[7]? = some (some (.int k))) ∧ (∃ a r, σ[4]? = some (some (.ref a)) ∧ H a = some (.lst (.str "next" :: r))) ∧ H (slotA 0 σ) ≠ none
theorem viewW : View vwG PreW := ⟨fun _ _ _ s => L2.Same.trans (fun _ _ h => h) (DQ.same_del s), fun σ H p o q n => by
  show del (upd H p o) (slotA 0 σ) p = some o
  rw [del_ne (fun e => q.2.2 (by rw [← e]; exact n)), upd_same], fun σ H H' s ⟨h1, ⟨a, r, h2, h3⟩, h4⟩ => ⟨h1, ⟨a, r, h2, s _ _ h3⟩, fun e => h4 (s.free e)⟩⟩
def vwS (i : Nat) (σ : L2.St) (H : Hp) : Hp := del H (slotA i σ)
def PreS (i : Nat) : L2.St → Hp → Prop := fun σ H => H (slotA i σ) ≠ none
theorem viewS (i : Nat) : View (vwS i) (PreS i) := ⟨fun _ _ _ s => DQ.same_del s, fun σ H p o q n => by
  show del (upd H p o) (slotA i σ) p = some o
  rw [del_ne (fun e => q (by rw [← e]; exact n)), upd_same], fun σ H H' s h e => h (s.free e)⟩
theorem del_upd_same {a : Addr} {H : Hp} {o : HO} : Same (del H a) (upd H a o) := fun b u e => by
  by_cases z : b = a
  · rw [z] at e; simp [del] at e
  · rw [upd_ne z, ← e, del_ne z]
/-- a row of the loop: facts and the one that leads twice -/
def RowAt (H : Hp) (v : V) (p : PyData × PyData) : Prop := ∃ t r b, v = .ref t ∧ H t = some (.tup [r, b]) ∧ Lit H p.1 r ∧ Lit H p.2 b
theorem RowAt.same {H H' : Hp} {v : V} {p : PyData × PyData} (h : RowAt H v p) (s : Same H H') : RowAt H' v p := by
  obtain ⟨t, r, b, e, h1, h2, h3⟩ := h
  exact ⟨t, r, b, e, s _ _ h1, lit_same s _ _ h2, lit_same s _ _ h3⟩
theorem row_lit {H : Hp} {v : V} {a b : PyData} (h : Lit H (.tuple [a, b]) v) : RowAt H v (a, b) := by
  simp only [Lit, LitAll] at h
  obtain ⟨t, xs, e, ht, r, vs, rfl, lr, b', vs', rfl, lb, rfl⟩ := h
  exact ⟨t, r, b', e, ht, lr, lb⟩
theorem litAll_app {H : Hp} : ∀ {ds es : List PyData} {xs ys : List V}, LitAll H ds xs → LitAll H es ys → LitAll H (ds ++ es) (xs ++ ys)
  | [], _, _, _, h, b => by simp only [LitAll] at h; rw [h]; exact b
  | d :: ds, _, _, _, h, b => by
    simp only [LitAll] at h
    obtain ⟨v, vs, r, h1, h2⟩ := h
    rw [r]
    simp only [List.cons_append, LitAll]
    exact ⟨v, _, rfl, h1, litAll_app h2 b⟩
theorem litAll_drop {H : Hp} : ∀ (n : Nat) {ds : List PyData} {xs : List V}, LitAll H ds xs → LitAll H (ds.drop n) (xs.drop n)
  | 0, _, _, h => h
  | n + 1, [], xs, h => by simp only [LitAll] at h; rw [h]; simp only [List.drop_nil, LitAll]
  | n + 1, d :: ds, xs, h => by
    simp only [LitAll] at h
    obtain ⟨v, vs, r, _, h2⟩ := h
    rw [r]; exact litAll_drop n h2
theorem litAll_take {H : Hp} : ∀ (n : Nat) {ds : List PyData} {xs : List V}, LitAll H ds xs → LitAll H (ds.take n) (xs.take n)
  | 0, _, _, _ => by simp only [List.take_zero, LitAll]
  | n + 1, [], xs, h => by simp only [LitAll] at h; rw [h]; simp only [List.take_nil, LitAll]
  | n + 1, d :: ds, xs, h => by
    simp only [LitAll] at h
    obtain ⟨v, vs, r, h1, h2⟩ := h
    rw [r]
    simp only [List.take_succ_cons, LitAll]
    exact ⟨v, _, rfl, h1, litAll_take n h2⟩
theorem lit_lst {H : Hp} {a : Addr} {xs : List V} {ds : List PyData} (h : H a = some (.lst xs)) (l : LitAll H ds xs) : Lit H (.list ds) (.ref a) := by
  simp only [Lit]
  exact ⟨a, xs, rfl, h, l⟩
theorem lit_one {H : Hp} {d : PyData} {v : V} (l : Lit H d v) : LitAll H [d] [v] := by
  simp only [LitAll]
  exact ⟨v, [], rfl, l, rfl⟩
theorem rows_end : ∀ p ∈ rowsD, endOf (.list []) (.list [.str "next", .str "below"]) (.list [.int 1, .int 2, .int 3, .int 4]) p.1 = some (2, p.2) ∧ tinyB (.list [.list [], .list [.str "next", .str "below"], .list [.int 1, .int 2, .int 3, .int 4], p.1]) = true ∧ okAll (.list []) (.list [.str "next", .str "below"]) (.list [.int 1, .int 2, .int 3, .int 4]) p.1 = true ∧ tinyB p.2 = true := fun p hp => by
  simp only [rowsD, List.mem_cons, List.not_mem_nil, or_false] at hp
  rcases hp with rfl | rfl | rfl | rfl <;> exact ⟨by rfl, by decide +kernel, by decide +kernel, by decide +kernel⟩
theorem five_end : ∀ d ∈ fiveD, endOf (.list [.str "red"]) (.list [.str "next"]) (.list [.int 0, .int 1, .int 2]) (.list [d]) = some (2, d) ∧ tinyB (.list [.list [.str "red"], .list [.str "next"], .list [.int 0, .int 1, .int 2], .list [d]]) = true ∧ okAll (.list [.str "red"]) (.list [.str "next"]) (.list [.int 0, .int 1, .int 2]) (.list [d]) = true ∧ tinyB d = true := fun d hd => by
  simp only [fiveD, List.mem_cons, List.not_mem_nil, or_false] at hd
  rcases hd with rfl | rfl | rfl | rfl | rfl <;> exact ⟨by rfl, by decide +kernel, by decide +kernel, by decide +kernel⟩
theorem hone : ∀ (σ : L2.St) (H : Hp), PreW σ H → ∃ k, σ[7]? = some (some (.int k)) := fun _ _ h => h.1
def spFactRef : Sp := fun vs H Q _ => ∃ (g : Addr) (v : V) (S : Store) (n : Int), vs = [.ref g, v] ∧ Drawn 12 S ∧ StoAt (del H g) v S ∧ Gen H g n ∧ n + 100 ≤ 1073741824 ∧ ∀ H', Keep g H H' → Q (.bl true) H'
theorem seq_te2 {te : TE} {i : Nat} {rest : TS} {D : Ends} {rt bk ct} {σ : L2.St} {H : Hp} (Pz : V → Hp → Prop) (h1 : ∀ R : VK, (∀ x H2, Pz x H2 → R x H2) → te σ H R) (h2 : ∀ x H2, Pz x H2 → rest D (σ.set i (some x)) H2) : (Ends.mk (tSeq (tAsg te (gName i)) rest D) rt bk ct).nx σ H := h1 _ h2
theorem seq_only {te : TE} {rest : TS} {D : Ends} {σ : L2.St} {H : Hp} (h : ∀ R : VK, (∀ H', Same H H' → R (.bl true) H') → te σ H R) (q : ∀ H', Same H H' → rest D σ H') : tSeq (tIfS (tNot (tB te)) (tRet (tC (.bl false))) tNext) rest D σ H :=
  h _ fun H' s => ⟨true, rfl, iteF' rfl (q H' s)⟩
theorem seq_only2 {te : TE} {rest : TS} {D : Ends} {rt bk ct} {σ : L2.St} {H : Hp} (h : ∀ R : VK, (∀ H', Same H H' → R (.bl true) H') → te σ H R) (q : ∀ H', Same H H' → rest D σ H') : (Ends.mk (tSeq (tIfS (tNot (tB te)) (tRet (tC (.bl false))) tNext) rest D) rt bk ct).nx σ H :=
  h _ fun H' s => ⟨true, rfl, iteF' rfl (q H' s)⟩
theorem dpAll_app {K : PySem.W.Frag} {H : Hp} : ∀ {xs ys : List V} {ds es : List PyData}, DpAll K H xs ds → DpAll K H ys es → DpAll K H (xs ++ ys) (ds ++ es)
  | _, _, _, _, .nil, b => b
  | _, _, _, _, .cons h t, b => .cons h (dpAll_app t b)
theorem dpAll_take {K : PySem.W.Frag} {H : Hp} : ∀ {xs : List V} {ds : List PyData} (n : Nat), DpAll K H xs ds → DpAll K H (xs.take n) (ds.take n)
  | _, _, 0, _ => by rw [List.take_zero, List.take_zero]; exact .nil
  | _, _, _ + 1, .nil => .nil
  | _, _, n + 1, .cons h t => .cons h (dpAll_take n t)
theorem dpAll_drop {K : PySem.W.Frag} {H : Hp} : ∀ {xs : List V} {ds : List PyData} (n : Nat), DpAll K H xs ds → DpAll K H (xs.drop n) (ds.drop n)
  | _, _, 0, h => h
  | _, _, _ + 1, .nil => .nil
  | _, _, n + 1, .cons _ t => dpAll_drop n t
theorem next_first {m : Nat} {S : Store} (D : Drawn m S) : ∃ r : List Str, S.columns = ("next" : Str) :: r := by
  obtain ⟨k, h1, h2, e⟩ := D.columns
  have c : k = 1 ∨ k = 2 := by omega
  rcases c with rfl | rfl
  · exact ⟨[], e⟩
  · exact ⟨["below"], e⟩
theorem gone_no {m : Nat} {S : Store} (D : Drawn m S) : hasD S.marks (.str "gone") = false ∧ hasD S.marks (.str "next") = false := by
  obtain ⟨k, hk, e⟩ := D.marks
  rw [e]
  have c : k = 0 ∨ k = 1 ∨ k = 2 ∨ k = 3 := by omega
  rcases c with rfl | rfl | rfl | rfl <;> decide +kernel
theorem wrong_no {S : Store} (D : Drawn 12 S) {i : Int} {d : PyData} (h : d ∈ wrongD i) : isFactD S.marks S.columns S.items d = false := by
  obtain ⟨g1, g2⟩ := gone_no D
  simp only [wrongD, List.mem_cons, List.not_mem_nil, or_false] at h
  rcases h with rfl | rfl | rfl | rfl | rfl | rfl | rfl | rfl
  · simp [isFactD, g1]
  · have z : okItem S.items (.int 1000000001) = false := by simp [okItem, numD]
    simp [isFactD, z]
  · rfl
  · rfl
  · simp [isFactD, g2]
  · rfl
  · rfl
  · have z : PyData.eqv (.str "link") (.str "mark") = false := by decide +kernel
    simp [isFactD, z]
theorem wrong_sm {i : Int} (h0 : 0 ≤ i) (h1 : i ≤ 1000000000) {d : PyData} (h : d ∈ wrongD i) : Sm 1 260 d := by
  have it : Sm 0 64 (.int i) := sm_item ⟨h0, h1⟩
  have big : Sm 0 64 (.int 1000000001) := sm_int (by decide) (by decide)
  have st : ∀ x : Str, x ∈ (["mark", "link", "gone", "next"] : List Str) → Sm 0 64 (.str x) := fun x hx => by
    simp only [List.mem_cons, List.not_mem_nil, or_false] at hx
    rcases hx with rfl | rfl | rfl | rfl <;> exact sm_str (by decide +kernel) (by decide +kernel)
  have tu : ∀ ds : List PyData, ds.length ≤ 4 → (∀ d ∈ ds, Sm 0 64 d) → Sm 1 260 (.tuple ds) := fun ds l h => ((smAll (k := 0) (n := 64) h).tuple (m := 4) l).mono (by decide) (by decide)
  simp only [wrongD, List.mem_cons, List.not_mem_nil, or_false] at h
  rcases h with rfl | rfl | rfl | rfl | rfl | rfl | rfl | rfl
  · refine tu _ (by show 3 ≤ 4; decide) fun d hd => ?_
    simp only [List.mem_cons, List.not_mem_nil, or_false] at hd
    rcases hd with rfl | rfl | rfl
    · exact st _ (by decide)
    · exact st _ (by decide)
    · exact it
  · refine tu _ (by show 4 ≤ 4; decide) fun d hd => ?_
    simp only [List.mem_cons, List.not_mem_nil, or_false] at hd
    rcases hd with rfl | rfl | rfl | rfl
    · exact st _ (by decide)
    · exact st _ (by decide)
    · exact it
    · exact big
  · exact sm_none.mono (by decide) (by decide)
  · exact ((smAll (k := 0) (n := 64) (ds := [.str "mark"]) fun d hd => by rw [List.mem_singleton.mp hd]; exact st _ (by decide)).list (m := 1) (by show 1 ≤ 1; decide)).mono (by decide) (by decide)
  · refine tu _ (by show 3 ≤ 4; decide) fun d hd => ?_
    simp only [List.mem_cons, List.not_mem_nil, or_false] at hd
    rcases hd with rfl | rfl | rfl
    · exact st _ (by decide)
    · exact st _ (by decide)
    · exact it
  · exact tu _ (by show 0 ≤ 4; decide) fun d hd => by cases hd
  · exact (sm_int (i := 7) (by decide) (by decide)).mono (by decide) (by decide)
  · refine tu _ (by show 3 ≤ 4; decide) fun d hd => ?_
    simp only [List.mem_cons, List.not_mem_nil, or_false] at hd
    rcases hd with rfl | rfl | rfl
    · exact st _ (by decide)
    · exact st _ (by decide)
    · exact it
theorem wrong_parts {i : Int} {d : PyData} (h : d ∈ wrongD i) : Parts d := fun ds e z hz => by
  have p : (wrongD i).all partsB = true := by
    unfold wrongD
    simp only [List.all_cons, List.all_nil, partsB, List.take, Bool.and_true]
    decide +kernel
  have q := List.all_eq_true.mp p d h
  rw [e] at q
  exact List.all_eq_true.mp q z hz
section
variable {P : Program} {w : World} {K : PySem.W.Frag} {mg : Str → Option Value} {base : Heap}
theorem ok_factRef {f fr fc fo CL CT CF : Addr} {fd dr dc do_ : FuncData} (F : Fun K "_law_fact_refused" "_law_fact_refused" sFactRef f fd)
    (GR : FnOk P w K mg base CX0 2 fr dr ["generator", "bound"] spRandom) (bR : Binds K dr ["generator", "bound"] []) (kR : PySem.W.keepIn K (.ref fr) = true) (mR : mg "_law_random" = some (.ref fr))
    (GC : FnG P w K mg base CX0 8 fc dc ["marks", "columns", "items", "facts"] (spCaught K CL CT CF)) (bC : Binds K dc ["marks", "columns", "items", "facts"] []) (kC : PySem.W.keepIn K (.ref fc) = true) (mC : mg "_law_caught" = some (.ref fc))
    (GO : FnG P w K mg base CX0 1 fo do_ ["told", "place", "bad"] (spOnly K)) (bO : Binds K do_ ["told", "place", "bad"] []) (kO : PySem.W.keepIn K (.ref fo) = true) (mO : mg "_law_only" = some (.ref fo))
    (dist : [CL, CT, CF].Nodup) (mLen : mg "len" = none) : FnG P w K mg base CX0 9 f fd ["generator", "store"] spFactRef := by
  refine fun_okG F scFactRef (fun vs H Q E h => ?_) (fun cdv A outer s H vs Q E hr hG h => ?_)
  · obtain ⟨_, _, _, _, rfl, _⟩ := h
    rfl
  obtain ⟨g, v, S, n, rfl, D, A0, gen, hn, q⟩ := h
  have nd := scFactRef.nd
  have hcol : ∀ (σ : L2.St) (H : Hp) (Q : VK), PreW σ H → (∀ v H', Same H H' → Lit (vwG σ H') (.str "next") v → Q v H') → tOp (rIxL K) (tVar 4) (tC (.int 0)) σ H Q := fun σ H Q ⟨_, ⟨a, r, h2, h3⟩, _⟩ h => ⟨_, h2, a, _, 0, .str "next", rfl, rfl, SqL.of h3, atI_nat (j := 0) rfl, h _ H (fun _ _ h => h) (by simp only [Lit])⟩
  have hbig : ∀ (σ : L2.St) (H : Hp) (Q : VK), PreW σ H → (∀ v H', Same H H' → Lit (vwG σ H') (.int 1000000001) v → Q v H') → tOp (rI0 fun i j => .int (i + j)) (tLit vwG PreW fun _ => .int 1000000000) (tC (.int 1)) σ H Q := fun σ H Q p h => ⟨p, fun v H1 s1 l1 => by
    simp only [Lit] at l1
    subst l1
    exact ⟨1000000000, 1, rfl, rfl, h _ H1 s1 (by simp only [Lit]; rfl)⟩⟩
  refine ⟨_, (pss_cons (ps_asg (pv 1) (pg_tup rfl (pgs_cons (pg_name (i := 2) nd rfl (.inl rfl)) (pgs_cons (pg_name (i := 3) nd rfl (.inl rfl)) (pgs_cons (pg_name (i := 4) nd rfl (.inl rfl)) (pgs_cons (pg_name (i := 5) nd rfl (.inl rfl)) (pgs_cons (pg_name (i := 6) nd rfl (.inl rfl)) pgs_nil)))))))
    (pss_cons (ps_set (i := 7) nd rfl (.inl rfl) (pe_ifExp (pt_cmpR (op_neD hr.units) (pv 5) (pe_lst pa_nil) (nomark _)) (pe_ix (r := rIxL K) ix_list (pv 5) pe_int (fun _ _ => rfl)) pe_int))
    (pss_cons (ps_set (i := 8) nd rfl (.inl rfl) (l_lst viewW (l_cons viewW (l_tup viewW (l_cons viewW l_str (l_cons viewW l_str (l_cons viewW (l_ivar (pv 7) hone) l_nil)))) (l_cons viewW (l_tup viewW (l_cons viewW l_str (l_cons viewW (l_of (d := fun _ => .str "next") (pe_ix (r := rIxL K) ix_list (pv 4) pe_int (fun _ _ => rfl)) hcol) (l_cons viewW (l_ivar (pv 7) hone) (l_cons viewW (l_of (d := fun _ => .int 1000000001) (pe_op op_add (l_pow (vw := vwG) (Pre := PreW) (c := 1000000000) ⟨by decide, by decide, by decide⟩ (by decide +kernel) (op_powC ⟨by decide, by decide, by decide⟩ (by decide +kernel))) pe_int) hbig) l_nil))))) (l_cons viewW l_non (l_cons viewW (l_lst viewW (l_cons viewW l_str l_nil)) (l_cons viewW (l_tup viewW (l_cons viewW l_str (l_cons viewW (l_of (d := fun _ => .str "next") (pe_ix (r := rIxL K) ix_list (pv 4) pe_int (fun _ _ => rfl)) hcol) (l_cons viewW (l_ivar (pv 7) hone) l_nil)))) (l_cons viewW (l_tup viewW l_nil) (l_cons viewW l_int (l_cons viewW (l_tup viewW (l_cons viewW l_str (l_cons viewW (l_of (d := fun _ => .str "next") (pe_ix (r := rIxL K) ix_list (pv 4) pe_int (fun _ _ => rfl)) hcol) (l_cons viewW (l_ivar (pv 7) hone) l_nil)))) l_nil))))))))))
    (pss_cons (ps_par (i := 9) (j := 10) rfl nd rfl rfl (by decide) rfl rfl (pa_cons (pe_call GR (hr.mono (by decide)) rfl mR kR bR .nil pass0 (pa_cons (pv 0) (pa_cons (pe_op op_add (pe_callB call_len_seq (by rfl) mLen PySem.boot_len (pa_cons (pv 6) pa_nil)) pe_int) pa_nil))) (pa_cons (pe_ix (r := rIxL K) ix_list (pv 8) (pe_call GR (hr.mono (by decide)) rfl mR kR bR .nil pass0 (pa_cons (pv 0) (pa_cons (pe_callB call_len_seq (by rfl) mLen PySem.boot_len (pa_cons (pv 8) pa_nil)) pa_nil))) (fun _ _ => rfl)) pa_nil)) (by rfl))
    (pss_cons (ps_if (pt_not (pt_val (pe_callGd GO (hr.mono (by decide)) hG rfl mO kO bO .nil pass0 (pa_cons (pe_callGd GC (hr.mono (by decide)) hG rfl mC kC bC .nil pass0 (pa_cons (pv 3) (pa_cons (pv 4) (pa_cons (pv 5) (pa_cons (pe_op op_cat (pe_op op_cat (pe_slice (r := rSlL K) sl_list (pv 6) po_none (po_some (pv 9))) (pe_lst (pa_cons (pv 10) (pa_cons pe_non pa_nil)))) (pe_slice (r := rSlL K) sl_list (pv 6) (po_some (pv 9)) po_none)) pa_nil))))) (pa_cons pe_int (pa_cons (pv 10) pa_nil)))))) (pss_one (ps_ret pe_bl)) pss_nil)
    (pss_cons (ps_set (i := 11) nd rfl (.inl rfl) (l_lst view0 (l_cons view0 (l_tup view0 (l_cons view0 l_str (l_cons view0 l_str (l_cons view0 l_int (l_cons view0 l_int l_nil))))) (l_cons view0 (l_tup view0 (l_cons view0 l_str (l_cons view0 l_str (l_cons view0 l_int (l_cons view0 l_int l_nil))))) (l_cons view0 (l_tup view0 (l_cons view0 l_str (l_cons view0 l_str (l_cons view0 l_int (l_cons view0 l_int l_nil))))) (l_cons view0 (l_tup view0 (l_cons view0 l_str (l_cons view0 l_str (l_cons view0 l_int (l_cons view0 l_int l_nil))))) (l_cons view0 (l_tup view0 (l_cons view0 l_str (l_cons view0 l_str (l_cons view0 l_int (l_cons view0 l_int l_nil))))) (l_cons view0 (l_tup view0 (l_cons view0 l_str (l_cons view0 l_str (l_cons view0 l_int (l_cons view0 l_int l_nil))))) l_nil))))))))
    (pss_cons (ps_if (pt_not (pt_val (pe_callGd GO (hr.mono (by decide)) hG rfl mO kO bO .nil pass0 (pa_cons (pe_callGd GC (hr.mono (by decide)) hG rfl mC kC bC .nil pass0 (pa_cons (l_lst view0 l_nil) (pa_cons (l_lst view0 (l_cons view0 l_str (l_cons view0 l_str l_nil))) (pa_cons (l_lst view0 (l_cons view0 l_int (l_cons view0 l_int (l_cons view0 l_int l_nil)))) (pa_cons (pv 11) pa_nil))))) (pa_cons pe_int (pa_cons (l_tup view0 (l_cons view0 l_str (l_cons view0 l_str (l_cons view0 l_int (l_cons view0 l_int l_nil))))) pa_nil)))))) (pss_one (ps_ret pe_bl)) pss_nil)
    (pss_cons (ps_set (i := 12) nd rfl (.inl rfl) (pe_lst (pa_cons (l_tup view0 (l_cons view0 (l_lst view0 (l_cons view0 (l_tup view0 (l_cons view0 l_str (l_cons view0 l_str (l_cons view0 l_int (l_cons view0 l_int l_nil))))) (l_cons view0 (l_tup view0 (l_cons view0 l_str (l_cons view0 l_str (l_cons view0 l_int (l_cons view0 l_int l_nil))))) l_nil))) (l_cons view0 (l_tup view0 (l_cons view0 l_str (l_cons view0 l_str (l_cons view0 l_int (l_cons view0 l_int l_nil))))) l_nil))) pa_nil)))
    (pss_cons (ps_expr (pe_bm PySem.F.plainAttrs_list PySem.F.slot_list_append PySem.F.type_list_append mt_append (pv 12) (pa_cons (l_tup (viewS 12) (l_cons (viewS 12) (l_lst (viewS 12) (l_cons (viewS 12) (l_tup (viewS 12) (l_cons (viewS 12) l_str (l_cons (viewS 12) l_str (l_cons (viewS 12) l_int (l_cons (viewS 12) l_int l_nil))))) (l_cons (viewS 12) (l_tup (viewS 12) (l_cons (viewS 12) l_str (l_cons (viewS 12) l_str (l_cons (viewS 12) l_int (l_cons (viewS 12) l_int l_nil))))) (l_cons (viewS 12) (l_tup (viewS 12) (l_cons (viewS 12) l_str (l_cons (viewS 12) l_str (l_cons (viewS 12) l_int (l_cons (viewS 12) l_int l_nil))))) l_nil)))) (l_cons (viewS 12) (l_tup (viewS 12) (l_cons (viewS 12) l_str (l_cons (viewS 12) l_str (l_cons (viewS 12) l_int (l_cons (viewS 12) l_int l_nil))))) l_nil))) pa_nil)))
    (pss_cons (ps_set (i := 13) nd rfl (.inl rfl) (l_lst view0 (l_cons view0 (l_tup view0 (l_cons view0 l_str (l_cons view0 l_str (l_cons view0 l_int (l_cons view0 l_int l_nil))))) (l_cons view0 (l_tup view0 (l_cons view0 l_str (l_cons view0 l_str (l_cons view0 l_int (l_cons view0 l_int l_nil))))) (l_cons view0 (l_tup view0 (l_cons view0 l_str (l_cons view0 l_str (l_cons view0 l_int (l_cons view0 l_int l_nil))))) (l_cons view0 (l_tup view0 (l_cons view0 l_str (l_cons view0 l_str (l_cons view0 l_int (l_cons view0 l_int l_nil))))) l_nil))))))
    (pss_cons (ps_for (passes_of rfl) rfl (pi_list (pe_op op_cat (pv 12) (pe_lst (pa_cons (pe_tup (pa_cons (pv 13) (pa_cons (l_tup view0 (l_cons view0 l_str (l_cons view0 l_str (l_cons view0 l_int (l_cons view0 l_int l_nil))))) pa_nil))) (pa_cons (pe_tup (pa_cons (pe_op op_cat (pe_slice (r := rSlL K) sl_list (pv 13) (po_some pe_int) po_none) (pe_slice (r := rSlL K) sl_list (pv 13) po_none (po_some pe_int))) (pa_cons (l_tup view0 (l_cons view0 l_str (l_cons view0 l_str (l_cons view0 l_int (l_cons view0 l_int l_nil))))) pa_nil))) pa_nil))))) (pg_tup rfl (pgs_cons (pg_name (i := 14) nd rfl (.inl rfl)) (pgs_cons (pg_name (i := 10) nd rfl (.inl rfl)) pgs_nil))) (pss_one (ps_if (pt_not (pt_val (pe_callGd GO (hr.mono (by decide)) hG rfl mO kO bO .nil pass0 (pa_cons (pe_callGd GC (hr.mono (by decide)) hG rfl mC kC bC .nil pass0 (pa_cons (l_lst view0 l_nil) (pa_cons (l_lst view0 (l_cons view0 l_str (l_cons view0 l_str l_nil))) (pa_cons (l_lst view0 (l_cons view0 l_int (l_cons view0 l_int (l_cons view0 l_int (l_cons view0 l_int l_nil))))) (pa_cons (pv 14) pa_nil))))) (pa_cons pe_int (pa_cons (pv 10) pa_nil)))))) (pss_one (ps_ret pe_bl)) pss_nil)))
    (pss_cons (ps_for (passes_of rfl) rfl (pi_list (l_lst view0 (l_cons view0 (l_tup view0 (l_cons view0 l_str (l_cons view0 l_str (l_cons view0 (l_lst view0 (l_cons view0 l_int l_nil)) l_nil)))) (l_cons view0 (l_tup view0 (l_cons view0 l_str (l_cons view0 l_str (l_cons view0 (l_dct view0) l_nil)))) (l_cons view0 (l_tup view0 (l_cons view0 l_str (l_cons view0 l_str (l_cons view0 l_int (l_cons view0 (l_dct view0) l_nil))))) (l_cons view0 (l_tup view0 (l_cons view0 l_str (l_cons view0 l_str (l_cons view0 l_int (l_cons view0 l_bl l_nil))))) (l_cons view0 (l_tup view0 (l_cons view0 l_str (l_cons view0 l_str (l_cons view0 l_bl (l_cons view0 l_int l_nil))))) l_nil))))))) (pg_name (i := 10) nd rfl (.inl rfl)) (pss_one (ps_if (pt_not (pt_val (pe_callGd GO (hr.mono (by decide)) hG rfl mO kO bO .nil pass0 (pa_cons (pe_callGd GC (hr.mono (by decide)) hG rfl mC kC bC .nil pass0 (pa_cons (l_lst view0 (l_cons view0 l_str l_nil)) (pa_cons (l_lst view0 (l_cons view0 l_str l_nil)) (pa_cons (l_lst view0 (l_cons view0 l_int (l_cons view0 l_int (l_cons view0 l_int l_nil)))) (pa_cons (pe_lst (pa_cons (pv 10) pa_nil)) pa_nil))))) (pa_cons pe_int (pa_cons (pv 10) pa_nil)))))) (pss_one (ps_ret pe_bl)) pss_nil)))
    (pss_one (ps_ret (pe_callGd GO (hr.mono (by decide)) hG rfl mO kO bO .nil pass0 (pa_cons (pe_callGd GC (hr.mono (by decide)) hG rfl mC kC bC .nil pass0 (pa_cons (l_lst view0 l_nil) (pa_cons (l_lst view0 (l_cons view0 l_str (l_cons view0 l_str l_nil))) (pa_cons (l_lst view0 (l_cons view0 l_int (l_cons view0 l_int (l_cons view0 l_int l_nil)))) (pa_cons (pe_op op_cat (pv 11) (pe_lst (pa_cons pe_non pa_nil))) pa_nil))))) (pa_cons pe_int (pa_cons pe_non pa_nil)))))))))))))))))), ?_⟩
  obtain ⟨t, ma, ca, ia, fa, rs, rfl, ht, hma, hca, hia, hfa, tp⟩ := id A0
  have un := fun {b : Addr} {o : HO} (e : del H g b = some o) => del_le b o e
  have ng : ∀ {b : Addr} {o : HO}, del H g b = some o → b ≠ g := fun e z => by rw [z] at e; simp [del] at e
  refine ⟨_, rfl, t, _, rfl, .inl (.inl (un ht)), rfl, _, _, rfl, _, _, rfl, _, _, rfl, _, _, rfl, _, _, rfl, rfl, ?_⟩
  refine seq_te2 (fun x H2 => Same H H2 ∧ ∃ k : Int, x = .int k ∧ 0 ≤ k ∧ k ≤ 1000000000) (fun R hR => ?_) fun x H2 ⟨s2, k, hx, k0, k1⟩ => ?_
  · refine ⟨_, rfl, Nat.zero_le _, fun e ne => ?_⟩
    have me := same_new ne (o := .lst [])
    refine ⟨.list (S.items.map PyData.int), .list [], .lst (SqL.of (me _ _ (un hia))) (dp_intsL _), .lst (SqL.of upd_same) .nil, shaped_ints _, by decide +kernel, ?_⟩
    cases hi : S.items with
    | nil => exact ⟨false, rfl, iteF' rfl (hR _ _ ⟨me, 5, rfl, by decide, by decide⟩)⟩
    | cons y r =>
      have iy := D.items.2 y (by rw [hi]; exact List.mem_cons_self)
      exact ⟨true, rfl, iteT' rfl ⟨_, rfl, ia, _, 0, .int y, rfl, rfl, SqL.of (me _ _ (un hia)), atI_nat (j := 0) (by rw [hi]; rfl), hR _ _ ⟨me, y, rfl, iy.1, iy.2⟩⟩⟩
  subst hx
  obtain ⟨cr, hcr⟩ := next_first D
  have hca2 : H2 ca = some (.lst (.str "next" :: cr.map V.str)) := by
    have z := s2 _ _ (un hca)
    rw [hcr] at z
    exact z
  have hg2 : H2 g ≠ none := by
    obtain ⟨x, y, z, e, _⟩ := gen.same s2
    rw [e]; simp
  refine ⟨⟨⟨k, rfl⟩, ⟨ca, _, rfl, hca2⟩, hg2⟩, fun wv H3 s3 lw => ?_⟩
  have lw' : Lit (del H3 g) (.list (wrongD k)) wv := lw
  obtain ⟨wa, ws, rfl, hwa, lws⟩ := lit_texts lw'
  have wl : ws.length = 8 := litAll_len lws
  have s03 := s2.trans s3
  have gen3 := gen.same s03
  have lf := facts_63 D
  have lrs : rs.length = S.facts.length := by rw [tp.length, List.length_map]
  have few := D.few
  have wng : wa ≠ g := fun z => by rw [z] at hwa; simp [del] at hwa
  refine ⟨_, rfl, _, rfl, fa, _, rfl, .inl (SqL.of (s03 _ _ (un hfa))), _, _, rfl, rfl, g, _, _, rfl, gen3, by omega, by omega, by omega, fun r H4 r0 r1 gn4 b4 => ?_⟩
  obtain ⟨at_, rfl⟩ : ∃ a : Nat, r = (a : Int) := ⟨r.toNat, by omega⟩
  refine ⟨_, rfl, _, rfl, _, rfl, wa, _, rfl, .inl (SqL.of ((b4 wa wng).trans (del_le _ _ hwa))), g, _, _, rfl, gn4, by rw [wl]; decide, by rw [wl]; decide, by omega, fun r2 H5 r20 r21 gn5 b5 => ?_⟩
  obtain ⟨j, rfl⟩ : ∃ a : Nat, r2 = (a : Int) := ⟨r2.toNat, by omega⟩
  obtain ⟨bv, hbv⟩ : ∃ bv, ws[j]? = some bv := ⟨_, List.getElem?_eq_getElem (by omega)⟩
  obtain ⟨bd, hbd, lbd⟩ := litAll_get lws hbv
  have inW := List.mem_of_getElem? hbd
  have k35 : Keep g H3 H5 := (Keep.of_but b4).trans (Keep.of_but b5)
  have lb5 : Lit H5 bd bv := lit_same (fun b o e => del_le b o (keep_del k35 b o e)) bd bv lbd
  refine ⟨wa, ws, (j : Int), bv, rfl, rfl, SqL.of ((b5 wa wng).trans ((b4 wa wng).trans (del_le _ _ hwa))), atI_nat hbv, ⟨_, _, rfl, ?_⟩⟩
  have kp5 : Keep g H H5 := (Keep.of_same s03).trans k35
  have up : ∀ {b : Addr} {o : HO}, del H g b = some o → H5 b = some o := fun e => kp5 _ _ (ng e) (un e)
  have fc := D.fewColumns
  have fmk := D.fewMarks
  have rsAll : ∀ {J : Hp}, Same H5 J → DpAll K J rs (S.facts.map Fact.d) := fun s => dp_facts (tp.keep fun a u e => s _ _ (up e))
  refine seq_only2 (fun R hR => ?_) fun H6 s6 => ?_
  · refine ⟨.ref ma, rfl, .ref ca, rfl, .ref ia, rfl, _, rfl, _, rfl, _, rfl, fa, _, rfl, SqL.of (up hfa), fun p1 np1 => ?_⟩
    rw [cut_take (by omega), Int.toNat_natCast]
    have m1 := same_new np1 (o := .lst (rs.take at_))
    have f1 : L2.upd H5 p1 (.lst (rs.take at_)) p1 = some (.lst (rs.take at_)) := upd_same
    generalize L2.upd H5 p1 (.lst (rs.take at_)) = J1 at m1 f1 ⊢
    refine ⟨_, rfl, by show 2 ≤ sizeLine; decide, fun p2 np2 => ?_⟩
    have m2 := same_new np2 (o := .lst [bv, .non])
    have f2 : L2.upd J1 p2 (.lst [bv, .non]) p2 = some (.lst [bv, .non]) := upd_same
    generalize L2.upd J1 p2 (.lst [bv, .non]) = J2 at m2 f2 ⊢
    refine ⟨p1, p2, _, _, rfl, rfl, m2 _ _ f1, f2, Nat.le_trans (show (rs.take at_).length + 2 ≤ 100 by rw [List.length_take]; omega) (by decide), fun p3 np3 => ?_⟩
    have m3 := same_new np3 (o := .lst (rs.take at_ ++ [bv, .non]))
    have f3 : L2.upd J2 p3 (.lst (rs.take at_ ++ [bv, .non])) p3 = some (.lst (rs.take at_ ++ [bv, .non])) := upd_same
    generalize L2.upd J2 p3 (.lst (rs.take at_ ++ [bv, .non])) = J3 at m3 f3 ⊢
    have s3' := (m1.trans m2).trans m3
    refine ⟨_, rfl, _, rfl, _, rfl, fa, _, rfl, SqL.of (s3' _ _ (up hfa)), fun p4 np4 => ?_⟩
    rw [cut_drop]
    have m4 := same_new np4 (o := .lst (rs.drop at_))
    have f4 : L2.upd J3 p4 (.lst (rs.drop at_)) p4 = some (.lst (rs.drop at_)) := upd_same
    generalize L2.upd J3 p4 (.lst (rs.drop at_)) = J4 at m4 f4 ⊢
    refine ⟨p3, p4, _, _, rfl, rfl, m4 _ _ f3, f4, Nat.le_trans (show (rs.take at_ ++ [bv, V.non]).length + (rs.drop at_).length ≤ 1000 by rw [List.length_append, List.length_take, List.length_drop]; simp only [List.length_cons, List.length_nil]; omega) (by decide), fun p5 np5 => ?_⟩
    have m5 := same_new np5 (o := .lst (rs.take at_ ++ [bv, .non] ++ rs.drop at_))
    have f5 : L2.upd J4 p5 (.lst (rs.take at_ ++ [bv, .non] ++ rs.drop at_)) p5 = some (.lst (rs.take at_ ++ [bv, .non] ++ rs.drop at_)) := upd_same
    generalize L2.upd J4 p5 (.lst (rs.take at_ ++ [bv, .non] ++ rs.drop at_)) = J5 at m5 f5 ⊢
    have s5' := (s3'.trans m4).trans m5
    have all5 : DpAll K J5 (rs.take at_ ++ [bv, .non] ++ rs.drop at_) ((S.facts.map Fact.d).take at_ ++ [bd, .none] ++ (S.facts.map Fact.d).drop at_) := dpAll_app (dpAll_app (dpAll_take _ (rsAll s5')) (.cons (dp_same s5' _ _ (lit_dpL lb5)) (.cons .non .nil))) (dpAll_drop _ (rsAll s5'))
    obtain ⟨kk, hk, ek⟩ := D.marks
    obtain ⟨jj, hj1, hj, ej⟩ := D.columns
    have la : at_ ≤ rs.length := by omega
    have lt_ : (rs.take at_).length = at_ := by rw [List.length_take]; omega
    have ltd : ((S.facts.map Fact.d).take at_).length = at_ := by rw [List.length_take, List.length_map]; omega
    have smW : ∀ ms : List Str, (∀ x ∈ ms, x ∈ drawnWords) → ms.length ≤ 10 → SeqAt.shaped (.list (ms.map PyData.str)) = true := fun ms h l => (sm_words h l).shaped (by decide)
    have mem : ∀ d ∈ (S.facts.map Fact.d).take at_ ++ [bd, .none] ++ (S.facts.map Fact.d).drop at_, (∃ x ∈ S.facts, d = x.d) ∨ d = bd ∨ d = .none := fun d hd => by
      rcases List.mem_append.mp hd with hd | hd
      · rcases List.mem_append.mp hd with hd | hd
        · obtain ⟨x, hx, e⟩ := List.mem_map.mp (List.mem_of_mem_take hd)
          exact .inl ⟨x, hx, e.symm⟩
        · simp only [List.mem_cons, List.not_mem_nil, or_false] at hd
          exact .inr hd
      · obtain ⟨x, hx, e⟩ := List.mem_map.mp (List.mem_of_mem_drop hd)
        exact .inl ⟨x, hx, e.symm⟩
    have lds : ((S.facts.map Fact.d).take at_ ++ [bd, .none] ++ (S.facts.map Fact.d).drop at_).length ≤ 70 := by
      rw [List.length_append, List.length_append, ltd, List.length_drop, List.length_map]
      simp only [List.length_cons, List.length_nil]
      omega
    have en : EndsIn K CL CT CF [.ref ma, .ref ca, .ref ia, .ref p5] J5 CF bv := by
      refine ends_made (s5' _ _ (up hma)) (s5' _ _ (up hca)) (s5' _ _ (up hia)) f5 all5 (words_fit (fun x h => D.word (.inl h)) (by omega)) (by rw [ek]; exact marks_ok hk) (smW _ (fun x h => D.word (.inl h)) fmk) (words_fit (fun x h => D.word (.inr h)) (by omega)) (by rw [ek, ej]; exact columns_ok hk hj1 hj) (smW _ (fun x h => D.word (.inr h)) fc) (by omega) (nums_all fun i hi => D.items.2 i hi) (by omega) (fun d hd => ?_) (by omega) (by omega) fun J6 Q' E' s' t' => ?_
      · rcases mem d hd with ⟨x, hx, rfl⟩ | rfl | rfl
        · exact fact_parts x (lay_words _ (D.factWord hx)).1
        · exact wrong_parts inW
        · exact fun ds e => by cases e
      · refine .wrong (Nat.le_trans (onces_facts _ S.items rfl).2.2 (by omega)) at_ bv bd ?_ ?_ (fun j' hj' d' hd' => ?_) (wrong_no D inW) t'
        · rw [List.append_assoc, List.getElem?_append_right (by omega), lt_, Nat.sub_self]; rfl
        · rw [List.append_assoc, List.getElem?_append_right (by omega), ltd, Nat.sub_self]; rfl
        · rw [List.append_assoc, List.getElem?_append_left (by omega)] at hd'
          obtain ⟨x, hx, rfl⟩ := List.mem_map.mp (List.mem_of_mem_take (List.mem_of_getElem? hd'))
          exact isFact_of D.items.2 (D.facts x hx)
    have smB := wrong_sm k0 k1 inW
    have shF : ShowsZ (.list [.list (S.marks.map PyData.str), .list (S.columns.map PyData.str), .list (S.items.map PyData.int), .list ((S.facts.map Fact.d).take at_ ++ [bd, .none] ++ (S.facts.map Fact.d).drop at_)]) := by
      have a := (sm_words (ms := S.marks) (fun x h => D.word (.inl h)) fmk).mono (k' := 2) (n' := 65000) (by decide) (by decide)
      have b := (sm_words (ms := S.columns) (fun x h => D.word (.inr h)) fc).mono (k' := 2) (n' := 65000) (by decide) (by decide)
      have c := (sm_items (fun i hi => D.items.2 i hi) (by omega)).mono (k' := 2) (n' := 65000) (by decide) (by decide)
      have d : Sm 2 65000 (.list ((S.facts.map Fact.d).take at_ ++ [bd, .none] ++ (S.facts.map Fact.d).drop at_)) := ((smAll (k := 1) (n := 260) fun e he => by
        rcases mem e he with ⟨x, hx, rfl⟩ | rfl | rfl
        · exact sm_fact D hx
        · exact smB
        · exact sm_none.mono (by decide) (by decide)).list (m := 70) lds).mono (by decide) (by decide)
      exact (((smAll (k := 2) (n := 65000) (ds := [.list (S.marks.map PyData.str), .list (S.columns.map PyData.str), .list (S.items.map PyData.int), .list ((S.facts.map Fact.d).take at_ ++ [bd, .none] ++ (S.facts.map Fact.d).drop at_)]) fun e he => by
        simp only [List.mem_cons, List.not_mem_nil, or_false] at he
        rcases he with rfl | rfl | rfl | rfl
        · exact a
        · exact b
        · exact c
        · exact d).list (m := 4) (Nat.le_refl _)).z).shows (by decide) (by decide)
    refine nil_read ?_
    show spCaught K CL CT CF [.ref ma, .ref ca, .ref ia, .ref p5] J5 _ _
    refine caught_told dist (.lst (SqL.of (s5' _ _ (up hma))) (dp_texts _)) (.lst (SqL.of (s5' _ _ (up hca))) (dp_texts _)) (.lst (SqL.of (s5' _ _ (up hia))) (dp_intsL _)) (.lst (SqL.of f5) all5) shF (k := 2) rfl en (dp_same s5' _ _ (lit_dpL lb5)) fun tv J7 s7 told => ?_
    show tCons _ _ _ _ _
    refine c_read ?_
    refine ⟨bv, rfl, ?_⟩
    refine nil_read ?_
    show spOnly K [tv, .int ((2 : Nat) : Int), bv] J7 _ _
    exact only_told told (dp_same (s5'.trans s7) _ _ (lit_dpL lb5)) ((smB.z).shows (by decide) (by decide)) fun J8 s8 => hR _ ((s5'.trans s7).trans s8)
  -- the written rows
  refine ⟨trivial, fun tw H7 s7 ltw => ?_⟩
  have ltw : Lit H7 (.list twiceD) tw := ltw
  refine seq_only2 (fun R hR => ?_) fun H8 s8 => ?_
  · refine ⟨trivial, fun v1 J1 m1 l1 => ⟨trivial, fun v2 J2 m2 l2 => ⟨trivial, fun v3 J3 m3 l3 => ?_⟩⟩⟩
    refine ⟨tw, rfl, ?_⟩
    refine nil_read ?_
    show spCaught K CL CT CF [v1, v2, v3, tw] J3 _ _
    have m13 := (m1.trans m2).trans m3
    refine caught_lit (dm := .list []) (dc := .list [.str "next", .str "below"]) (di := .list [.int 3, .int 2, .int 1]) (df := .list twiceD) (k := 2) (d := .tuple [.str "link", .str "next", .int 1, .int 3]) dist (lit_same (m2.trans m3) _ _ l1) (lit_same m3 _ _ l2) l3 (lit_same m13 _ _ ltw) (by decide +kernel) (by decide +kernel) (by rfl) fun tv J4 m4 told => ?_
    show tCons _ _ _ _ _
    refine c_read ?_
    refine ⟨trivial, fun z J5 m5 lz => ?_⟩
    refine nil_read ?_
    show spOnly K [tv, .int ((2 : Nat) : Int), z] J5 _ _
    exact only_told (told.same m5) (lit_dpL lz) ((tiny (by decide +kernel)).shows (by decide) (by decide)) fun J6 m6 => hR _ ((m13.trans m4).trans (m5.trans m6))
  refine ⟨trivial, fun v0 H9 s9 l0 => ?_⟩
  refine nil_read ⟨by show 1 ≤ sizeLine; decide, fun ra nra => ?_⟩
  have eR0 : L2.upd H9 ra (.lst [v0]) ra = some (.lst [v0]) := upd_same
  have s10 := same_new nra (o := .lst [v0])
  generalize L2.upd H9 ra (.lst [v0]) = H10 at eR0 s10 ⊢
  refine ⟨.ref ra, rfl, .inl ⟨rfl, _, SqL.of eR0⟩, (show H10 ra ≠ none by rw [eR0]; simp), fun nv H11 s11 lnv => ?_⟩
  have lnv : Lit (del H11 ra) (.tuple [(rowsD[1]).1, (rowsD[1]).2]) nv := lnv
  refine nil_read ⟨ra, [v0], nv, rfl, rfl, s11 _ _ eR0, by show 1 < sizeLine; decide, ?_⟩
  have s12 : Same H9 (L2.upd H11 ra (.lst ([v0] ++ [nv]))) := same_upd (s10.trans s11) nra
  have eR : L2.upd H11 ra (.lst ([v0] ++ [nv])) ra = some (.lst [v0, nv]) := upd_same
  have rw1 := row_lit (lit_same (del_upd_same (o := .lst ([v0] ++ [nv]))) _ _ lnv)
  have rw0 : RowAt (L2.upd H11 ra (.lst ([v0] ++ [nv]))) v0 rowsD[0] := (row_lit (show Lit H9 (.tuple [(rowsD[0]).1, (rowsD[0]).2]) v0 from l0)).same s12
  generalize L2.upd H11 ra (.lst ([v0] ++ [nv])) = H12 at s12 eR rw0 rw1 ⊢
  refine ⟨trivial, fun bl H13 s13 lbl => ?_⟩
  have lbl : Lit H13 (.list belowD) bl := lbl
  -- the rows, one after the other
  obtain ⟨ba, bxs, rfl, hba, lbs⟩ := lit_texts lbl
  refine ⟨.ref ra, rfl, .ref ba, rfl, trivial, fun c1 J1 m1 lc1 => ?_⟩
  have lc1 : Lit J1 (rowsD[2]).2 c1 := lc1
  refine nil_read ⟨by show 2 ≤ sizeLine; decide, fun t1 nt1 => ?_⟩
  have m2 := same_new nt1 (o := .tup [.ref ba, c1])
  have e1 : L2.upd J1 t1 (.tup [.ref ba, c1]) t1 = some (.tup [.ref ba, c1]) := upd_same
  generalize L2.upd J1 t1 (.tup [.ref ba, c1]) = J2 at m2 e1 ⊢
  have m02 := m1.trans m2
  refine ⟨.ref ba, rfl, _, rfl, ba, _, rfl, SqL.of (m02 _ _ hba), fun p1 np1 => ?_⟩
  rw [show cutV bxs (some 2) none = bxs.drop 2 from cut_drop (k := 2)]
  have m3 := same_new np1 (o := .lst (bxs.drop 2))
  have f1 : L2.upd J2 p1 (.lst (bxs.drop 2)) p1 = some (.lst (bxs.drop 2)) := upd_same
  generalize L2.upd J2 p1 (.lst (bxs.drop 2)) = J3 at m3 f1 ⊢
  refine ⟨.ref ba, rfl, _, rfl, ba, _, rfl, SqL.of ((m02.trans m3) _ _ hba), fun p2 np2 => ?_⟩
  rw [show cutV bxs none (some 2) = bxs.take 2 from cut_take (r := 2) (by decide)]
  have m4 := same_new np2 (o := .lst (bxs.take 2))
  have f2 : L2.upd J3 p2 (.lst (bxs.take 2)) p2 = some (.lst (bxs.take 2)) := upd_same
  generalize L2.upd J3 p2 (.lst (bxs.take 2)) = J4 at m4 f2 ⊢
  have lbx : bxs.length = 4 := litAll_len lbs
  refine ⟨p1, p2, _, _, rfl, rfl, m4 _ _ f1, f2, Nat.le_trans (show (bxs.drop 2).length + (bxs.take 2).length ≤ 100 by rw [List.length_take, List.length_drop]; omega) (by decide), fun p3 np3 => ?_⟩
  have m5 := same_new np3 (o := .lst (bxs.drop 2 ++ bxs.take 2))
  have f3 : L2.upd J4 p3 (.lst (bxs.drop 2 ++ bxs.take 2)) p3 = some (.lst (bxs.drop 2 ++ bxs.take 2)) := upd_same
  generalize L2.upd J4 p3 (.lst (bxs.drop 2 ++ bxs.take 2)) = J5 at m5 f3 ⊢
  refine ⟨trivial, fun c2 J6 m6 lc2 => ?_⟩
  have lc2 : Lit J6 (rowsD[3]).2 c2 := lc2
  refine nil_read ⟨by show 2 ≤ sizeLine; decide, fun t2 nt2 => ?_⟩
  have m7 := same_new nt2 (o := .tup [.ref p3, c2])
  have e2 : L2.upd J6 t2 (.tup [.ref p3, c2]) t2 = some (.tup [.ref p3, c2]) := upd_same
  generalize L2.upd J6 t2 (.tup [.ref p3, c2]) = J7 at m7 e2 ⊢
  refine nil_read ⟨by show 2 ≤ sizeLine; decide, fun l8 nl8 => ?_⟩
  have m8 := same_new nl8 (o := .lst [V.ref t1, .ref t2])
  have e8 : L2.upd J7 l8 (.lst [V.ref t1, .ref t2]) l8 = some (.lst [V.ref t1, .ref t2]) := upd_same
  generalize L2.upd J7 l8 (.lst [V.ref t1, .ref t2]) = J8 at m8 e8 ⊢
  have m28 := ((((m3.trans m4).trans m5).trans m6).trans m7).trans m8
  have m08 := m02.trans m28
  have m138 := s13.trans m08
  refine ⟨ra, l8, _, _, rfl, rfl, m138 _ _ eR, e8, by show 2 + 2 ≤ sizeLine; decide, fun l9 nl9 => ?_⟩
  have m9 := same_new nl9 (o := .lst [v0, nv, .ref t1, .ref t2])
  have e9 : L2.upd J8 l9 (.lst [v0, nv, .ref t1, .ref t2]) l9 = some (.lst [v0, nv, .ref t1, .ref t2]) := upd_same
  have rows9 : Paired (RowAt (L2.upd J8 l9 (.lst [v0, nv, .ref t1, .ref t2]))) [v0, nv, .ref t1, .ref t2] rowsD := by
    refine .cons (rw0.same (m138.trans m9)) (.cons (rw1.same (m138.trans m9)) (.cons ⟨t1, .ref ba, c1, rfl, m9 _ _ (m28 _ _ e1), lit_same (m08.trans m9) _ _ lbl, lit_same ((m2.trans m28).trans m9) _ _ lc1⟩ (.cons ⟨t2, .ref p3, c2, rfl, m9 _ _ (m8 _ _ e2), ?_, lit_same ((m7.trans m8).trans m9) _ _ lc2⟩ .nil)))
    have z : Same J5 (L2.upd J8 l9 (.lst [v0, nv, .ref t1, .ref t2])) := ((m6.trans m7).trans m8).trans m9
    exact lit_lst (z _ _ f3) (litAll_app (litAll_drop 2 (litAll_same (m08.trans m9) _ _ lbs)) (litAll_take 2 (litAll_same (m08.trans m9) _ _ lbs)))
  generalize hJ9 : L2.upd J8 l9 (.lst ([v0, nv] ++ [V.ref t1, .ref t2])) = J9
  rw [show L2.upd J8 l9 (.lst [v0, nv, .ref t1, .ref t2]) = J9 from hJ9] at m9 e9 rows9
  refine ⟨l9, rfl, ⟨_, SqL.of e9⟩, for_list (K := K) (a := l9) (xs := [v0, nv, .ref t1, .ref t2]) (fun i σ J => ∃ y10 y14 : Option V, σ = [some (.ref g), some (.ref t), some (.str "store"), some (.ref ma), some (.ref ca), some (.ref ia), some (.ref fa), some (.int k), some (.ref wa), some (.int (at_ : Nat)), y10, some tw, some (.ref ra), some (.ref ba), y14] ∧ Same J9 J)
    ⟨some bv, none, rfl, fun _ _ h => h⟩ (fun i σ J _ hP => ?_) (fun i x σ J hx hP => ?_) fun σ J hP => ?_⟩
  · obtain ⟨_, _, rfl, sJ⟩ := hP
    exact SqL.of (sJ _ _ e9)
  · obtain ⟨y10, y14, rfl, sJ⟩ := hP
    obtain ⟨p, hp, rp⟩ := paired_at rows9 hx
    obtain ⟨o1, o2, o3, o4⟩ := rows_end p (List.mem_of_getElem? hp)
    obtain ⟨tt, rr, bb, rfl, htt, lr, lb⟩ := rp.same sJ
    refine ⟨tt, _, rfl, .inl (.inl htt), rfl, rr, _, rfl, bb, _, rfl, rfl, ?_⟩
    refine if_only (fun R hR => ?_) fun J2 m2' => ⟨_, _, rfl, sJ.trans m2'⟩
    refine ⟨trivial, fun v1 K1 n1 l1 => ⟨trivial, fun v2 K2 n2 l2 => ⟨trivial, fun v3 K3 n3 l3 => ?_⟩⟩⟩
    refine ⟨rr, rfl, ?_⟩
    refine nil_read ?_
    show spCaught K CL CT CF [v1, v2, v3, rr] K3 _ _
    have n13 := (n1.trans n2).trans n3
    refine caught_lit (dm := .list []) (dc := .list [.str "next", .str "below"]) (di := .list [.int 1, .int 2, .int 3, .int 4]) (df := p.1) (k := 2) (d := p.2) dist (lit_same (n2.trans n3) _ _ l1) (lit_same n3 _ _ l2) l3 (lit_same n13 _ _ lr) o2 o3 o1 fun tv K4 n4 told => ?_
    show tCons _ _ _ _ _
    refine c_read ?_
    refine ⟨bb, rfl, ?_⟩
    refine nil_read ?_
    show spOnly K [tv, .int ((2 : Nat) : Int), bb] K4 _ _
    exact only_told told (lit_dpL (lit_same (n13.trans n4) _ _ lb)) ((tiny o4).shows (by decide) (by decide)) fun K6 n6 => hR _ ((n13.trans n4).trans n6)
  obtain ⟨y10, y14, rfl, sJ⟩ := hP
  refine ⟨trivial, fun fv J10 m10 lfv => ?_⟩
  have lfv : Lit J10 (.list fiveD) fv := lfv
  obtain ⟨f5a, f5x, rfl, hf5, lf5⟩ := lit_texts lfv
  refine ⟨f5a, rfl, ⟨_, SqL.of hf5⟩, for_list (K := K) (a := f5a) (xs := f5x) (fun i σ J => ∃ y10 : Option V, σ = [some (.ref g), some (.ref t), some (.str "store"), some (.ref ma), some (.ref ca), some (.ref ia), some (.ref fa), some (.int k), some (.ref wa), some (.int (at_ : Nat)), y10, some tw, some (.ref ra), some (.ref ba), y14] ∧ Same J10 J)
    ⟨y10, rfl, fun _ _ h => h⟩ (fun i σ J _ hP => ?_) (fun i x σ J hx hP => ?_) fun σ J11 hP => ?_⟩
  · obtain ⟨_, rfl, sJ⟩ := hP
    exact SqL.of (sJ _ _ hf5)
  · obtain ⟨y10, rfl, sJ⟩ := hP
    obtain ⟨d, hd, ld⟩ := litAll_get lf5 hx
    have ld := lit_same sJ _ _ ld
    obtain ⟨o1, o2, o3, o4⟩ := five_end d (List.mem_of_getElem? hd)
    refine if_only (fun R hR => ?_) fun J2 m2' => ⟨_, rfl, sJ.trans m2'⟩
    refine ⟨trivial, fun v1 K1 n1 l1 => ⟨trivial, fun v2 K2 n2 l2 => ⟨trivial, fun v3 K3 n3 l3 => ?_⟩⟩⟩
    have n13 := (n1.trans n2).trans n3
    refine ⟨x, rfl, by show 1 ≤ sizeLine; decide, fun pz npz => ?_⟩
    have nz := same_new npz (o := .lst [x])
    have ez : L2.upd K3 pz (.lst [x]) pz = some (.lst [x]) := upd_same
    generalize L2.upd K3 pz (.lst [x]) = K3' at nz ez ⊢
    refine nil_read ?_
    show spCaught K CL CT CF [v1, v2, v3, .ref pz] K3' _ _
    refine caught_lit (dm := .list [.str "red"]) (dc := .list [.str "next"]) (di := .list [.int 0, .int 1, .int 2]) (df := .list [d]) (k := 2) (d := d) dist (lit_same ((n2.trans n3).trans nz) _ _ l1) (lit_same (n3.trans nz) _ _ l2) (lit_same nz _ _ l3) (lit_lst ez (lit_one (lit_same (n13.trans nz) _ _ ld))) o2 o3 o1 fun tv K4 n4 told => ?_
    show tCons _ _ _ _ _
    refine c_read ?_
    refine ⟨x, rfl, ?_⟩
    refine nil_read ?_
    show spOnly K [tv, .int ((2 : Nat) : Int), x] K4 _ _
    exact only_told told (lit_dpL (lit_same ((n13.trans nz).trans n4) _ _ ld)) ((tiny o4).shows (by decide) (by decide)) fun K6 n6 => hR _ (((n13.trans nz).trans n4).trans n6)
  obtain ⟨y10', rfl, sJ2⟩ := hP
  -- a wrong fact ahead of what leads twice
  have s7z := (((((s8.trans s9).trans s12).trans m138).trans m9).trans sJ).trans (m10.trans sJ2)
  obtain ⟨ta, txs, rfl, hta, lts⟩ := lit_texts (lit_same s7z _ _ ltw)
  refine ⟨trivial, fun v1 K1 n1 l1 => ⟨trivial, fun v2 K2 n2 l2 => ⟨trivial, fun v3 K3 n3 l3 => ?_⟩⟩⟩
  have n13 := (n1.trans n2).trans n3
  refine ⟨.ref ta, rfl, by show 1 ≤ sizeLine; decide, fun p6 np6 => ?_⟩
  have w1 := same_new np6 (o := .lst [V.non])
  have x1 : L2.upd K3 p6 (.lst [V.non]) p6 = some (.lst [V.non]) := upd_same
  generalize L2.upd K3 p6 (.lst [V.non]) = K5 at w1 x1 ⊢
  have n15 := n13.trans w1
  have ltx : txs.length = 6 := litAll_len lts
  refine ⟨ta, p6, _, _, rfl, rfl, n15 _ _ hta, x1, Nat.le_trans (show txs.length + 1 ≤ 100 by omega) (by decide), fun p7 np7 => ?_⟩
  have w2 := same_new np7 (o := .lst (txs ++ [V.non]))
  have x2 : L2.upd K5 p7 (.lst (txs ++ [V.non])) p7 = some (.lst (txs ++ [V.non])) := upd_same
  generalize L2.upd K5 p7 (.lst (txs ++ [V.non])) = K6 at w2 x2 ⊢
  refine nil_read ?_
  show spCaught K CL CT CF [v1, v2, v3, .ref p7] K6 _ _
  refine caught_lit (dm := .list []) (dc := .list [.str "next", .str "below"]) (di := .list [.int 3, .int 2, .int 1]) (df := .list (twiceD ++ [.none])) (k := 2) (d := .none) dist (lit_same (((n2.trans n3).trans w1).trans w2) _ _ l1) (lit_same ((n3.trans w1).trans w2) _ _ l2) (lit_same (w1.trans w2) _ _ l3) (lit_lst x2 (litAll_app (litAll_same (n15.trans w2) _ _ lts) (lit_one (by simp only [Lit])))) (by decide +kernel) (by decide +kernel) (by rfl) fun tv K7 n7 told => ?_
  show tCons _ _ _ _ _
  refine c_read ?_
  show tCons _ _ _ _ _
  refine c_read ?_
  refine nil_read ?_
  show spOnly K [tv, .int ((2 : Nat) : Int), .non] K7 _ _
  exact only_told told .non ((sm_none.z).shows (by decide) (by decide)) fun K8 n8 => q _ (kp5.trans (Keep.of_same (((((s6.trans s7).trans s7z).trans (n15.trans w2)).trans n7).trans n8)))
end
end DQ

set_option Elab.async false
set_option linter.all false
set_option maxRecDepth 100000
set_option maxHeartbeats 2000000
namespace DQ
open PySem PySem.Spec PyProof.Rows L2
/-! ### _law_same_thing -/
abbrev sSame : Stmt := topS 42
theorem scSame : FnScope ["thing", "told", "given"] [] (defScope sSame) := ⟨rfl, rfl, rfl, by decide +kernel, rfl, by decide +kernel, by decide +kernel⟩
def spSame : Sp := fun vs H Q _ => vs = [] ∧ ∀ H', Same H H' → Q (.bl true) H'
abbrev redD : PyData := .list [.str "red", .str "red"]
/-- four arguments of a call that ends in the value at a -/
def Elem (K : PySem.W.Frag) (CL CT CF a : Addr) (D : Hp) (x : V) : Prop := ∃ (t : Addr) (vm vc vi vf : V) (dm dc di df : PyData) (C : Addr), x = .ref t ∧ D t = some (.tup [vm, vc, vi, vf]) ∧ Dp K D vm dm ∧ Dp K D vc dc ∧ Dp K D vi di ∧ Dp K D vf df ∧ ShowsZ (.list [dm, dc, di, df]) ∧ C ∈ [CL, CT, CF] ∧ EndsIn K CL CT CF [vm, vc, vi, vf] D C (.ref a)
theorem Elem.same {K : PySem.W.Frag} {CL CT CF a : Addr} {D D' : Hp} {x : V} (h : Elem K CL CT CF a D x) (s : Same D D') : Elem K CL CT CF a D' x := by
  obtain ⟨t, vm, vc, vi, vf, dm, dc, di, df, C, e, ht, h1, h2, h3, h4, sh, m, en⟩ := h
  exact ⟨t, vm, vc, vi, vf, dm, dc, di, df, C, e, s _ _ ht, dp_same s _ _ h1, dp_same s _ _ h2, dp_same s _ _ h3, dp_same s _ _ h4, sh, m, en.same s⟩
theorem lit_strs1 {H : Hp} {x : Str} {v : V} (l : Lit H (.list [.str x]) v) : ∃ a, v = .ref a ∧ H a = some (.lst [.str x]) := by
  simp only [Lit, LitAll] at l
  obtain ⟨a, xs, e, ha, v', vs, rfl, rfl, rfl⟩ := l
  exact ⟨a, e, ha⟩
theorem lit_ints1 {H : Hp} {x : Int} {v : V} (l : Lit H (.list [.int x]) v) : ∃ a, v = .ref a ∧ H a = some (.lst [.int x]) := by
  simp only [Lit, LitAll] at l
  obtain ⟨a, xs, e, ha, v', vs, rfl, rfl, rfl⟩ := l
  exact ⟨a, e, ha⟩
theorem lit_nil {H : Hp} {v : V} (l : Lit H (.list []) v) : ∃ a, v = .ref a ∧ H a = some (.lst []) := by
  simp only [Lit, LitAll] at l
  obtain ⟨a, xs, e, ha, rfl⟩ := l
  exact ⟨a, e, ha⟩
section
variable {P : Program} {w : World} {K : PySem.W.Frag} {mg : Str → Option Value} {base : Heap}
theorem ok_same {f fc CL CT CF : Addr} {fd dc : FuncData} (F : Fun K "_law_same_thing" "_law_same_thing" sSame f fd)
    (GC : FnG P w K mg base CX0 8 fc dc ["marks", "columns", "items", "facts"] (spCaught K CL CT CF)) (bC : Binds K dc ["marks", "columns", "items", "facts"] []) (kC : PySem.W.keepIn K (.ref fc) = true) (mC : mg "_law_caught" = some (.ref fc)) : FnG P w K mg base CX0 9 f fd [] spSame := by
  refine fun_okG F scSame (fun vs H Q E h => ?_) (fun cdv A outer s H vs Q E hr hG h => ?_)
  · rw [h.1]; rfl
  obtain ⟨rfl, q⟩ := h
  have nd := scSame.nd
  refine ⟨_, pss_cons (ps_par (i := 0) (j := 1) rfl nd rfl rfl (by decide) rfl rfl (pa_cons (pe_lst (pa_cons pe_str (pa_cons pe_str pa_nil))) (pa_cons (pe_lst pa_nil) pa_nil)) (by rfl))
    (pss_cons (ps_for (passes_of rfl) rfl (pi_list (pe_lst (pa_cons (pe_tup (pa_cons (pv 0) (pa_cons (l_lst (viewS 1) l_nil) (pa_cons (l_lst (viewS 1) l_nil) (pa_cons (l_lst (viewS 1) l_nil) pa_nil))))) (pa_cons (pe_tup (pa_cons (l_lst (viewS 1) l_nil) (pa_cons (pv 0) (pa_cons (l_lst (viewS 1) l_nil) (pa_cons (l_lst (viewS 1) l_nil) pa_nil))))) (pa_cons (pe_tup (pa_cons (l_lst (viewS 1) l_nil) (pa_cons (l_lst (viewS 1) l_nil) (pa_cons (pv 0) (pa_cons (l_lst (viewS 1) l_nil) pa_nil))))) (pa_cons (pe_tup (pa_cons (l_lst (viewS 1) (l_cons (viewS 1) l_str l_nil)) (pa_cons (l_lst (viewS 1) l_nil) (pa_cons (l_lst (viewS 1) (l_cons (viewS 1) l_int l_nil)) (pa_cons (pe_lst (pa_cons (pv 0) pa_nil)) pa_nil))))) pa_nil)))))) (pg_name (i := 2) nd rfl (.inl rfl))
      (pss_one (ps_expr (pe_bm PySem.F.plainAttrs_list PySem.F.slot_list_append PySem.F.type_list_append mt_append (pv 1) (pa_cons (pe_ix (r := rIxT K) ix_tup (pe_callGd GC (hr.mono (by decide)) hG rfl mC kC bC .nil pass0 (pa_cons (pe_ix (r := rIxT K) ix_tup (pv 2) pe_int (fun _ _ => rfl)) (pa_cons (pe_ix (r := rIxT K) ix_tup (pv 2) pe_int (fun _ _ => rfl)) (pa_cons (pe_ix (r := rIxT K) ix_tup (pv 2) pe_int (fun _ _ => rfl)) (pa_cons (pe_ix (r := rIxT K) ix_tup (pv 2) pe_int (fun _ _ => rfl)) pa_nil))))) pe_int (fun _ _ => rfl)) pa_nil)))))
    (pss_cons (ps_expr (pe_bm PySem.F.plainAttrs_list PySem.F.slot_list_append PySem.F.type_list_append mt_append (pv 0) (pa_cons pe_int pa_nil)))
    (pss_one (ps_ret (pe_cmpR (op_eqD hr.units) (pv 1) (pe_op op_rep (pe_lst (pa_cons (l_lst view0 (l_cons view0 l_str (l_cons view0 l_str (l_cons view0 l_int l_nil)))) pa_nil)) pe_int) (nomark _)))))), ?_⟩
  refine ⟨by show 2 ≤ sizeLine; decide, fun a na => ⟨Nat.zero_le _, fun b nb => ⟨_, _, rfl, ?_⟩⟩⟩
  have s1 := same_new na (o := .lst [V.str "red", .str "red"])
  have ea : L2.upd H a (.lst [V.str "red", .str "red"]) a = some (.lst [V.str "red", .str "red"]) := upd_same
  generalize L2.upd H a (.lst [V.str "red", .str "red"]) = H1 at s1 ea nb ⊢
  have nab : a ≠ b := ne_of_none ea nb
  have s2 := same_new nb (o := .lst [])
  have eb : L2.upd H1 b (.lst []) b = some (.lst []) := upd_same
  generalize L2.upd H1 b (.lst []) = H2 at s2 eb ⊢
  have pre : ∀ {J : Hp}, Same H2 J → J b ≠ none := fun s => by rw [s _ _ eb]; simp
  have sd : ∀ {J J' : Hp}, Same J J' → Same (del J b) (del J' b) := fun s => DQ.same_del s
  have tn : ∀ {J : Hp} {p : Addr} {o : HO}, Same H2 J → J p = none → del (L2.upd J p o) b p = some o := fun s np => by
    rw [del_ne (fun e => pre s (by rw [← e]; exact np)), upd_same]
  have c0 : Same H2 H2 := fun _ _ h => h
  refine ⟨.ref a, rfl, pre c0, fun v1 J1 m1 l1 => ⟨pre m1, fun v2 J2 m2 l2 => ⟨pre (m1.trans m2), fun v3 J3 m3 l3 => nil_read ⟨by show 4 ≤ sizeLine; decide, fun t1 nt1 => ?_⟩⟩⟩⟩
  have c3 := (m1.trans m2).trans m3
  have e1 := tn c3 nt1 (o := .tup [.ref a, v1, v2, v3])
  have k1 := same_new nt1 (o := .tup [.ref a, v1, v2, v3])
  generalize L2.upd J3 t1 (.tup [.ref a, v1, v2, v3]) = J4 at e1 k1 ⊢
  have c4 := c3.trans k1
  refine ⟨pre c4, fun v4 J5 m4 l4 => ⟨.ref a, rfl, pre (c4.trans m4), fun v5 J6 m5 l5 => ⟨pre ((c4.trans m4).trans m5), fun v6 J7 m6 l6 => nil_read ⟨by show 4 ≤ sizeLine; decide, fun t2 nt2 => ?_⟩⟩⟩⟩
  have c7 := ((c4.trans m4).trans m5).trans m6
  have e2 := tn c7 nt2 (o := .tup [v4, .ref a, v5, v6])
  have k2 := same_new nt2 (o := .tup [v4, .ref a, v5, v6])
  generalize L2.upd J7 t2 (.tup [v4, .ref a, v5, v6]) = J8 at e2 k2 ⊢
  have c8 := c7.trans k2
  refine ⟨pre c8, fun v7 J9 m7 l7 => ⟨pre (c8.trans m7), fun v8 J10 m8 l8 => ⟨.ref a, rfl, pre ((c8.trans m7).trans m8), fun v9 J11 m9 l9 => nil_read ⟨by show 4 ≤ sizeLine; decide, fun t3 nt3 => ?_⟩⟩⟩⟩
  have c11 := ((c8.trans m7).trans m8).trans m9
  have e3 := tn c11 nt3 (o := .tup [v7, v8, .ref a, v9])
  have k3 := same_new nt3 (o := .tup [v7, v8, .ref a, v9])
  generalize L2.upd J11 t3 (.tup [v7, v8, .ref a, v9]) = J12 at e3 k3 ⊢
  have c12 := c11.trans k3
  refine ⟨pre c12, fun r1 J13 m13 lr => ⟨pre (c12.trans m13), fun v10 J14 m14 l10 => ⟨pre ((c12.trans m13).trans m14), fun o1 J15 m15 lo => ⟨.ref a, rfl, by show 1 ≤ sizeLine; decide, fun fz nfz => ?_⟩⟩⟩⟩
  have c15 := ((c12.trans m13).trans m14).trans m15
  have ef := tn c15 nfz (o := .lst [.ref a])
  have kf := same_new nfz (o := .lst [V.ref a])
  generalize L2.upd J15 fz (.lst [V.ref a]) = J16 at ef kf ⊢
  have c16 := c15.trans kf
  refine nil_read ⟨by show 4 ≤ sizeLine; decide, fun t4 nt4 => ?_⟩
  have e4 := tn c16 nt4 (o := .tup [r1, v10, o1, .ref fz])
  have k4 := same_new nt4 (o := .tup [r1, v10, o1, .ref fz])
  generalize L2.upd J16 t4 (.tup [r1, v10, o1, .ref fz]) = J17 at e4 k4 ⊢
  have c17 := c16.trans k4
  refine nil_read ⟨by show 4 ≤ sizeLine; decide, fun l9' nl => ?_⟩
  have eL := tn c17 nl (o := .lst [V.ref t1, .ref t2, .ref t3, .ref t4])
  have kL := same_new nl (o := .lst [V.ref t1, .ref t2, .ref t3, .ref t4])
  generalize L2.upd J17 l9' (.lst [V.ref t1, .ref t2, .ref t3, .ref t4]) = JL at eL kL ⊢
  have cL := c17.trans kL
  -- the four calls
  have s17 := sd kL
  have s16 := L2.Same.trans (sd k4) s17
  have s15 := L2.Same.trans (sd kf) s16
  have s12 := L2.Same.trans (sd ((m13.trans m14).trans m15)) s15
  have s8 := L2.Same.trans (sd (((m7.trans m8).trans m9).trans k3)) s12
  have s4 := L2.Same.trans (sd (((m4.trans m5).trans m6).trans k2)) s8
  have l1 : Lit (del J1 b) (.list []) v1 := l1
  have l2 : Lit (del J2 b) (.list []) v2 := l2
  have l3 : Lit (del J3 b) (.list []) v3 := l3
  have l4 : Lit (del J5 b) (.list []) v4 := l4
  have l5 : Lit (del J6 b) (.list []) v5 := l5
  have l6 : Lit (del J7 b) (.list []) v6 := l6
  have l7 : Lit (del J9 b) (.list []) v7 := l7
  have l8 : Lit (del J10 b) (.list []) v8 := l8
  have l9 : Lit (del J11 b) (.list []) v9 := l9
  have lr : Lit (del J13 b) (.list [.str "red"]) r1 := lr
  have l10 : Lit (del J14 b) (.list []) v10 := l10
  have lo : Lit (del J15 b) (.list [.int 1]) o1 := lo
  have dA : del JL b a = some (.lst [.str "red", .str "red"]) := by rw [del_ne nab]; exact cL _ _ (s2 _ _ ea)
  have dpA : Dp K (del JL b) (.ref a) redD := .lst (SqL.of dA) (.cons (.str _) (.cons (.str _) .nil))
  have z1 := lit_same (L2.Same.trans (sd ((m2.trans m3).trans k1)) s4) _ _ l1
  have z2 := lit_same (L2.Same.trans (sd (m3.trans k1)) s4) _ _ l2
  have z3 := lit_same (L2.Same.trans (sd k1) s4) _ _ l3
  have z4 := lit_same (L2.Same.trans (sd ((m5.trans m6).trans k2)) s8) _ _ l4
  have z5 := lit_same (L2.Same.trans (sd (m6.trans k2)) s8) _ _ l5
  have z6 := lit_same (L2.Same.trans (sd k2) s8) _ _ l6
  have z7 := lit_same (L2.Same.trans (sd ((m8.trans m9).trans k3)) s12) _ _ l7
  have z8 := lit_same (L2.Same.trans (sd (m9.trans k3)) s12) _ _ l8
  have z9 := lit_same (L2.Same.trans (sd k3) s12) _ _ l9
  have zr := lit_same (L2.Same.trans (sd (m14.trans m15)) s15) _ _ lr
  have z10 := lit_same (L2.Same.trans (sd m15) s15) _ _ l10
  have zo := lit_same s15 _ _ lo
  have E1 : Elem K CL CT CF a (del JL b) (.ref t1) := ⟨t1, .ref a, v1, v2, v3, redD, .list [], .list [], .list [], CL, rfl, s4 _ _ e1, dpA, lit_dpL z1, lit_dpL z2, lit_dpL z3, (tiny (by decide +kernel)).shows (by decide) (by decide), by simp, ends_marks dpA (fits_words (by decide +kernel)) (by decide +kernel)⟩
  have E2 : Elem K CL CT CF a (del JL b) (.ref t2) := ⟨t2, v4, .ref a, v5, v6, .list [], redD, .list [], .list [], CL, rfl, s8 _ _ e2, lit_dpL z4, dpA, lit_dpL z5, lit_dpL z6, (tiny (by decide +kernel)).shows (by decide) (by decide), by simp, ends_columns (lit_dpL z4) (fits_words (by decide +kernel)) (by decide +kernel) dpA (fits_words (by decide +kernel)) (by decide +kernel)⟩
  have E3 : Elem K CL CT CF a (del JL b) (.ref t3) := ⟨t3, v7, v8, .ref a, v9, .list [], .list [], redD, .list [], CL, rfl, s12 _ _ e3, lit_dpL z7, lit_dpL z8, dpA, lit_dpL z9, (tiny (by decide +kernel)).shows (by decide) (by decide), by simp, ends_items (lit_dpL z7) (fits_words (by decide +kernel)) (by decide +kernel) (lit_dpL z8) (fits_words (by decide +kernel)) (by decide +kernel) dpA (fits_items (by decide +kernel)) (by decide +kernel)⟩
  have E4 : Elem K CL CT CF a (del JL b) (.ref t4) := by
    obtain ⟨xr, rfl, hxr⟩ := lit_strs1 zr
    obtain ⟨xc, rfl, hxc⟩ := lit_nil z10
    obtain ⟨xo, rfl, hxo⟩ := lit_ints1 zo
    have hF := s16 _ _ ef
    have dF : DpAll K (del JL b) [V.ref a] [redD] := .cons dpA .nil
    refine ⟨t4, .ref xr, .ref xc, .ref xo, .ref fz, .list [.str "red"], .list [], .list [.int 1], .list [redD], CF, rfl, s17 _ _ e4, lit_dpL zr, lit_dpL z10, lit_dpL zo, .lst (SqL.of hF) dF, (tiny (by decide +kernel)).shows (by decide) (by decide), by simp, ?_⟩
    refine ends_made (ms := ["red"]) (cs := []) (ns := [1]) hxr hxc hxo hF dF (fits_words (by decide +kernel)) (by decide +kernel) (by decide +kernel) (fits_words (by decide +kernel)) (by decide +kernel) (by decide +kernel) (by decide) (by decide +kernel) (by decide) (fun d hd => ?_) (by decide) (by decide) fun H3 Q' E' s' t' => .wrong (by decide +kernel) 0 (.ref a) redD rfl rfl (fun j hj => absurd hj (Nat.not_lt_zero _)) (by rfl) t'
    rw [List.mem_singleton.mp hd]
    exact fun ds e => by cases e
  have all4 : ∀ x ∈ [V.ref t1, .ref t2, .ref t3, .ref t4], Elem K CL CT CF a (del JL b) x := fun x hx => by
    simp only [List.mem_cons, List.not_mem_nil, or_false] at hx
    rcases hx with rfl | rfl | rfl | rfl
    · exact E1
    · exact E2
    · exact E3
    · exact E4
  have lb' : l9' ≠ b := fun e => by rw [e] at eL; simp [del] at eL
  refine ⟨l9', rfl, ⟨_, SqL.of (del_le _ _ eL)⟩, for_list (K := K) (a := l9') (xs := [V.ref t1, .ref t2, .ref t3, .ref t4]) (fun i σ J => ∃ y : Option V, σ = [some (.ref a), some (.ref b), y] ∧ Keep b JL J ∧ J b = some (.lst (List.replicate i (V.ref a))))
    ⟨none, rfl, Keep.refl _ _, cL _ _ eb⟩ (fun i σ J _ hP => ?_) (fun i x σ J hx hP => ?_) fun σ J hP => ?_⟩
  · obtain ⟨_, rfl, kp, _⟩ := hP
    exact SqL.of (kp _ _ lb' (del_le _ _ eL))
  · obtain ⟨y, rfl, kp, eJb⟩ := hP
    have hi : i < 4 := (List.getElem?_eq_some_iff.mp hx).1
    obtain ⟨tt, vm, vc, vi, vf, dm, dc', di, df, C, rfl, ht, h1, h2, h3, h4, sh, mC', en⟩ := (all4 x (List.mem_of_getElem? hx)).same (L2.Same.trans (keep_del kp) del_le)
    refine ⟨.ref b, rfl, .inl ⟨rfl, _, SqL.of eJb⟩, _, rfl, tt, _, 0, vm, rfl, rfl, .inl (.inl ht), atI_nat (j := 0) rfl, _, rfl, tt, _, 1, vc, rfl, rfl, .inl (.inl ht), atI_nat (j := 1) rfl, _, rfl, tt, _, 2, vi, rfl, rfl, .inl (.inl ht), atI_nat (j := 2) rfl, _, rfl, tt, _, 3, vf, rfl, rfl, .inl (.inl ht), atI_nat (j := 3) rfl, ?_⟩
    refine nil_read ?_
    show spCaught K CL CT CF [vm, vc, vi, vf] J _ _
    refine ⟨vm, vc, vi, vf, dm, dc', di, df, C, .ref a, rfl, h1, h2, h3, h4, sh, mC', en, fun T L J2 s eT _ => ?_⟩
    refine ⟨T, _, 1, .ref a, rfl, rfl, .inl (.inl eT), atI_nat (j := 1) rfl, ?_⟩
    refine nil_read ⟨b, _, .ref a, rfl, rfl, s _ _ eJb, by rw [List.length_replicate]; exact Nat.lt_of_lt_of_le hi (by decide), ⟨_, rfl, fun c o nc e => ?_, ?_⟩⟩
    · rw [upd_ne nc]; exact s _ _ (kp _ _ nc e)
    · rw [upd_same, List.replicate_succ']
  obtain ⟨y, rfl, kp, eJb⟩ := hP
  have eJa := kp _ _ nab (cL _ _ (s2 _ _ ea))
  refine ⟨.ref a, rfl, .inl ⟨rfl, _, SqL.of eJa⟩, a, _, .int 7, rfl, rfl, eJa, by show 2 < sizeLine; decide, ?_⟩
  have fa : L2.upd J a (.lst ([V.str "red", .str "red"] ++ [.int 7])) a = some (.lst [V.str "red", .str "red", .int 7]) := upd_same
  have fb : L2.upd J a (.lst ([V.str "red", .str "red"] ++ [.int 7])) b = some (.lst (List.replicate 4 (V.ref a))) := by rw [upd_ne nab.symm]; exact eJb
  have fH : Same H (L2.upd J a (.lst ([V.str "red", .str "red"] ++ [.int 7]))) := fun c o e => by
    have nca : c ≠ a := ne_of_none e na
    have ncb : c ≠ b := ne_of_none (s1 _ _ e) nb
    rw [upd_ne nca]
    exact kp _ _ ncb (cL _ _ (s2 _ _ (s1 _ _ e)))
  generalize L2.upd J a (.lst ([V.str "red", .str "red"] ++ [.int 7])) = J3' at fa fb fH ⊢
  refine ⟨.ref b, rfl, trivial, fun lv K1 n1 ll => ?_⟩
  have ll : Lit K1 (.list [.str "red", .str "red", .int 7]) lv := ll
  refine nil_read ⟨by show 1 ≤ sizeLine; decide, fun p np => ?_⟩
  have w1 := same_new np (o := .lst [lv])
  refine ⟨p, 4, [lv], rfl, rfl, upd_same, by decide, by decide, by show 1 * 4 ≤ sizeLine; decide, fun p2 np2 => ?_⟩
  have w2 := same_new np2 (o := .lst ((List.replicate (4 : Int).toNat [lv]).flatten))
  have dl : Dp K K1 lv (.list [.str "red", .str "red", .int 7]) := lit_dpL ll
  have sAll := (n1.trans w1).trans w2
  have da : Dp K (L2.upd (L2.upd K1 p (.lst [lv])) p2 (.lst ((List.replicate (4 : Int).toNat [lv]).flatten))) (.ref a) (.list [.str "red", .str "red", .int 7]) := .lst (SqL.of (sAll _ _ fa)) (.cons (.str _) (.cons (.str _) (.cons (.int _) .nil)))
  have dl' := dp_same (w1.trans w2) _ _ dl
  refine ⟨.list [.list [.str "red", .str "red", .int 7], .list [.str "red", .str "red", .int 7], .list [.str "red", .str "red", .int 7], .list [.str "red", .str "red", .int 7]], .list [.list [.str "red", .str "red", .int 7], .list [.str "red", .str "red", .int 7], .list [.str "red", .str "red", .int 7], .list [.str "red", .str "red", .int 7]], .lst (SqL.of (sAll _ _ fb)) (.cons da (.cons da (.cons da (.cons da .nil)))), .lst (SqL.of upd_same) (.cons dl' (.cons dl' (.cons dl' (.cons dl' .nil)))), by decide +kernel, by decide +kernel, ?_⟩
  rw [show PyData.eqv (.list [.list [.str "red", .str "red", .int 7], .list [.str "red", .str "red", .int 7], .list [.str "red", .str "red", .int 7], .list [.str "red", .str "red", .int 7]]) (.list [.list [.str "red", .str "red", .int 7], .list [.str "red", .str "red", .int 7], .list [.str "red", .str "red", .int 7], .list [.str "red", .str "red", .int 7]]) = true by decide +kernel]
  exact q _ (fH.trans sAll)
end
end DQ

set_option Elab.async false
set_option linter.all false
set_option maxRecDepth 100000
set_option maxHeartbeats 4000000
namespace DQ
open PySem PySem.Spec PyProof.Rows L2
abbrev sItems : Stmt := topS 36
theorem scItems : FnScope ["generator", "most", "item", "found", "turn"] ["generator", "most"] (defScope sItems) := ⟨rfl, rfl, rfl, by decide +kernel, rfl, by decide +kernel, by decide +kernel⟩
section
variable {P : Program} {w : World} {K : PySem.W.Frag} {mg : Str → Option Value} {base : Heap}
def spItems : Sp := fun vs H Q _ => ∃ (g : Addr) (m : Nat) (n : Int), vs = [.ref g, .int m] ∧ m ≤ 100 ∧ Gen H g n ∧ n + 3 * m + 6 ≤ 1073741824 ∧
  ∀ (p : Addr) (ns : List Int) (H' : Hp), Rising ns → ns.length ≤ m → Keep g H H' → H p = none → H' p = some (.lst (ns.map V.int)) → Gen H' g (n + 3 * m + 6) → Q (.ref p) H'
theorem ok_items {f fr : Addr} {fd fdr : FuncData} (F : Fun K "_law_drawn_items" "_law_drawn_items" sItems f fd)
    (GR : FnOk P w K mg base CX0 2 fr fdr ["generator", "bound"] spRandom) (bR : Binds K fdr ["generator", "bound"] []) (kR : PySem.W.keepIn K (.ref fr) = true) (mR : mg "_law_random" = some (.ref fr)) (mRange : mg "range" = none) : FnOk P w K mg base CX0 3 f fd ["generator", "most"] spItems := by
  refine F.ok scItems (fun vs H Q E h => ?_) (fun cdv A outer s H vs Q E hr h => ?_)
  · obtain ⟨g, m, n, rfl, _⟩ := h
    rfl
  obtain ⟨g, m, n, rfl, hm, gen, hn, q⟩ := h
  have nd := scItems.nd
  refine ⟨_, (pss_cons (ps_par (i := 2) (j := 3) rfl nd rfl rfl (by decide) rfl rfl (pa_cons (pe_ix ix_list (pe_lst (pa_cons pe_int (pa_cons pe_int (pa_cons pe_int (pa_cons (pe_op op_sub (pe_op op_pow pe_int pe_int) (pe_op op_mul pe_int (pv 1))) pa_nil))))) (pe_call GR (hr.mono (by decide)) rfl mR kR bR .nil pass0 (pa_cons (pv 0) (pa_cons pe_int pa_nil))) (fun _ _ => rfl)) (pa_cons (pe_lst pa_nil) pa_nil)) (by rfl))
    (pss_cons (ps_for PassesOwn.never rfl (pi_range1 (by rfl) mRange (pa_cons (pe_call GR (hr.mono (by decide)) rfl mR kR bR .nil pass0 (pa_cons (pv 0) (pa_cons (pe_op op_add (pv 1) pe_int) pa_nil))) pa_nil)) (pg_name (i := 4) nd rfl (.inl rfl))
      (pss_cons (ps_expr (pe_bm PySem.F.plainAttrs_list PySem.F.slot_list_append PySem.F.type_list_append mt_append (pv 3) (pa_cons (pv 2) pa_nil)))
      (pss_one (ps_set (i := 2) nd rfl (.inl rfl) (pe_op op_add (pe_op op_add (pv 2) pe_int) (pe_call GR (hr.mono (by decide)) rfl mR kR bR .nil pass0 (pa_cons (pv 0) (pa_cons pe_int pa_nil))))))))
    (pss_one (ps_ret (pv 3))))), ?_⟩
  refine ⟨_, _, rfl, rfl, ⟨by decide, by decide, by decide⟩, _, rfl, _, _, rfl, rfl, .inl ⟨by decide, by decide⟩, _, _, rfl, rfl, by show 4 ≤ sizeLine; decide, fun p0 n0 => ?_⟩
  have pw : (10 : Int) ^ (9 : Int).toNat = 1000000000 := by decide
  have m0 := same_new n0 (o := .lst [.int 0, .int 0, .int 3, .int ((10 : Int) ^ (9 : Int).toNat - 3 * (m : Int))])
  have e0 : upd H p0 (.lst [.int 0, .int 0, .int 3, .int ((10 : Int) ^ (9 : Int).toNat - 3 * (m : Int))]) p0 = some (.lst [.int 0, .int 0, .int 3, .int ((10 : Int) ^ (9 : Int).toNat - 3 * (m : Int))]) := upd_same
  generalize upd H p0 (.lst [.int 0, .int 0, .int 3, .int ((10 : Int) ^ (9 : Int).toNat - 3 * (m : Int))]) = H1 at m0 e0 ⊢
  refine ⟨_, rfl, g, 4, _, rfl, gen.same m0, by decide, by decide, by omega, fun r H2 r0 r1 gen2 b2 => ?_⟩
  have e2 := (b2 p0 (gen.ne n0)).trans e0
  obtain ⟨v0, ev, h0, h1⟩ : ∃ v0 : Int, atI [V.int 0, .int 0, .int 3, .int ((10 : Int) ^ (9 : Int).toNat - 3 * (m : Int))] r = some (.int v0) ∧ 0 ≤ v0 ∧ v0 ≤ 1000000000 - 3 * m := by
    have c4 : r = 0 ∨ r = 1 ∨ r = 2 ∨ r = 3 := by omega
    rcases c4 with rfl | rfl | rfl | rfl
    · exact ⟨_, rfl, by decide, by omega⟩
    · exact ⟨_, rfl, by decide, by omega⟩
    · exact ⟨_, rfl, by decide, by omega⟩
    · exact ⟨_, rfl, by omega, by omega⟩
  refine ⟨p0, _, r, _, rfl, rfl, SqL.of e2, ev, Nat.zero_le _, fun p1 n1 => ⟨_, _, rfl, ?_⟩⟩
  have k2 : Keep g H H2 := (Keep.of_same m0).trans (Keep.of_but b2)
  have n1H : H p1 = none := Keep.free k2 gen.at n1 gen2.at
  have n1g : p1 ≠ g := gen.ne n1H
  have m1 := same_new n1 (o := .lst [])
  have e1 : upd H2 p1 (.lst []) p1 = some (.lst []) := upd_same
  generalize upd H2 p1 (.lst []) = H3 at m1 e1 ⊢
  have k3 := k2.trans (Keep.of_same m1)
  -- the turns
  refine ⟨_, rfl, _, rfl, _, _, rfl, rfl, g, _, _, rfl, gen2.same m1, by omega, by omega, by omega, fun rt H4 t0 t1 gen4 b4 => ⟨rt, rfl, by omega, by omega, ?_⟩⟩
  refine for_range (lo := 0) (n := rt.toNat) (fun i σ H' => ∃ (v : Int) (ns : List Int) (y : Option V), σ = [some (.ref g), some (.int m), some (.int v), some (.ref p1), y] ∧ H' p1 = some (.lst (ns.map V.int)) ∧ ns.length = i ∧ Rising ns ∧ (∀ x ∈ ns, x < v) ∧ 0 ≤ v ∧ v ≤ 1000000000 - 3 * m + 3 * i ∧ Keep g H H' ∧ Gen H' g (n + 6 + 3 * i))
    ⟨v0, [], none, rfl, (b4 p1 n1g).trans e1, rfl, ⟨List.Pairwise.nil, (fun x h => by cases h)⟩, (fun x h => by cases h), h0, by omega, k3.trans (Keep.of_but b4), gen4.mono (by omega)⟩ (fun i σ H' hi hP => ?_) fun σ H' hP => ?_
  · obtain ⟨v, ns, y, rfl, ep, hl, rs, lt, v0, v1, kp, gn⟩ := hP
    refine ⟨_, rfl, .inl ⟨rfl, _, SqL.of ep⟩, _, rfl, p1, _, _, rfl, rfl, ep, by rw [List.length_map]; exact small1000 (by omega), ?_⟩
    refine ⟨_, rfl, _, _, rfl, rfl, _, rfl, g, 3, _, rfl, gn.upd n1g.symm, by decide, by decide, by omega, fun r3 H5 r30 r31 gn5 b5 => ⟨_, _, rfl, rfl, ?_⟩⟩
    refine ⟨v + 1 + r3, ns ++ [v], _, rfl, ?_, by rw [List.length_append, hl]; rfl, rising_put rs lt v0 (by omega), fun x hx => ?_, by omega, by omega, ?_, gn5.mono (by omega)⟩
    · rw [b5 p1 n1g, upd_same, List.map_append]
      rfl
    · rcases List.mem_append.mp hx with z | z
      · have := lt x z
        omega
      · rw [List.mem_singleton] at z
        omega
    · exact (kp.upd_new n1H).trans (Keep.of_but b5)
  · obtain ⟨v, ns, y, rfl, ep, hl, rs, lt, v0, v1, kp, gn⟩ := hP
    exact ⟨_, rfl, q p1 ns H' rs (by omega) kp n1H ep (gn.mono (by omega))⟩
end
end DQ

set_option Elab.async false
set_option linter.all false
set_option maxRecDepth 100000
set_option maxHeartbeats 4000000
namespace DQ
open PySem PySem.Spec PyProof.Rows L2
abbrev sStore : Stmt := topS 37
abbrev NS : List Str := ["generator", "most", "marks", "columns", "items", "facts", "mark", "often", "item", "column", "one", "other"]
theorem scStore : FnScope NS ["generator", "most"] (defScope sStore) := ⟨rfl, rfl, rfl, by decide +kernel, rfl, by decide +kernel, by decide +kernel⟩
section
variable {P : Program} {w : World} {K : PySem.W.Frag} {mg : Str → Option Value} {base : Heap}
def spStore : Sp := fun vs H Q _ => ∃ (g : Addr) (m : Nat) (n : Int), vs = [.ref g, .int m] ∧ m ≤ 100 ∧ Gen H g n ∧ n + 30000 ≤ 1073741824 ∧
  ∀ (v : V) (S : Store) (H' : Hp), Drawn m S → Keep g H H' → StoAt H' v S → StoAt (del H' g) v S → Gen H' g (n + 30000) → Q v H'
theorem ok_store {f fi fp fr : Addr} {fd fdi fdp fdr : FuncData} (F : Fun K "_law_drawn_store" "_law_drawn_store" sStore f fd)
    (GI : FnOk P w K mg base CX0 3 fi fdi ["generator", "most"] spItems) (bI : Binds K fdi ["generator", "most"] []) (kI : PySem.W.keepIn K (.ref fi) = true) (mI : mg "_law_drawn_items" = some (.ref fi))
    (GP : FnOk P w K mg base CX0 4 fp fdp ["generator", "items"] (spPairs K)) (bP : Binds K fdp ["generator", "items"] []) (kP : PySem.W.keepIn K (.ref fp) = true) (mP : mg "_law_drawn_pairs" = some (.ref fp))
    (GR : FnOk P w K mg base CX0 2 fr fdr ["generator", "bound"] spRandom) (bR : Binds K fdr ["generator", "bound"] []) (kR : PySem.W.keepIn K (.ref fr) = true) (mR : mg "_law_random" = some (.ref fr)) (mSorted : mg "sorted" = none) : FnOk P w K mg base CX0 5 f fd ["generator", "most"] spStore := by
  refine F.ok scStore (fun vs H Q E h => ?_) (fun cdv A outer s H vs Q E hr h => ?_)
  · obtain ⟨g, m, n, rfl, _⟩ := h
    rfl
  obtain ⟨g, m, n, rfl, hm, gen, hn, q⟩ := h
  have nd := scStore.nd
  refine ⟨_, (pss_cons (ps_par (i := 2) (j := 3) rfl nd rfl rfl (by decide) rfl rfl (pa_cons (pe_slice sl_list (pe_lst (pa_cons pe_str (pa_cons pe_str (pa_cons pe_str pa_nil)))) po_none (po_some (pe_call GR (hr.mono (by decide)) rfl mR kR bR .nil pass0 (pa_cons (pv 0) (pa_cons pe_int pa_nil))))) (pa_cons (pe_slice sl_list (pe_lst (pa_cons pe_str (pa_cons pe_str pa_nil))) po_none (po_some (pe_op op_add pe_int (pe_call GR (hr.mono (by decide)) rfl mR kR bR .nil pass0 (pa_cons (pv 0) (pa_cons pe_int pa_nil)))))) pa_nil)) (by rfl))
    (pss_cons (ps_par (i := 4) (j := 5) rfl nd rfl rfl (by decide) rfl rfl (pa_cons (pe_call GI (hr.mono (by decide)) rfl mI kI bI .nil pass0 (pa_cons (pv 0) (pa_cons (pv 1) pa_nil))) (pa_cons (pe_lst pa_nil) pa_nil)) (by rfl))
    (pss_cons (ps_for PassesOwn.never rfl (pi_list (pv 2)) (pg_name (i := 6) nd rfl (.inr rfl)) (pss_cons (ps_set (i := 7) nd rfl (.inr rfl) (pe_op op_add pe_int (pe_call GR (hr.mono (by decide)) rfl mR kR bR .nil pass0 (pa_cons (pv 0) (pa_cons pe_int pa_nil))))) (pss_one (ps_set (i := 5) nd rfl (.inl rfl) (pe_op op_cat (pv 5) (pe_lc (own := [("item", 8)]) (g := gName 8) rfl nd (pi_list (pv 4)) (blkOk_by (own := [("item", 8)]) (N := NS) (sc := defScope sStore) (by decide +kernel)) (fun _ _ _ _ _ => pg_name (i := 8) nd rfl (Or.inl rfl)) (fun _ _ _ _ _ => pts_one (pt_cmpR op_eq (pe_call GR (hr.mono (by decide)) rfl mR kR bR .nil pass0 (pa_cons (pv 0) (pa_cons (pv 7) pa_nil))) pe_int (nomark _))) (fun _ _ _ _ _ => (pe_tup (pa_cons pe_str (pa_cons (pv 6) (pa_cons (pv 8) pa_nil)))))))))))
    (pss_cons (ps_for PassesOwn.never rfl (pi_list (pv 3)) (pg_name (i := 9) nd rfl (.inr rfl)) (pss_one (ps_set (i := 5) nd rfl (.inl rfl) (pe_op op_cat (pv 5) (pe_lc (own := [("one", 10), ("other", 11)]) (g := gTup K 2 (gCons (gName 10) (gCons (gName 11) gNil))) (tt := tYes) rfl nd (pi_list (pe_call GP (hr.mono (by decide)) rfl mP kP bP .nil pass0 (pa_cons (pv 0) (pa_cons (pv 4) pa_nil)))) (blkOk_by (own := [("one", 10), ("other", 11)]) (N := NS) (sc := defScope sStore) (by decide +kernel)) (fun _ _ _ _ _ => pg_tup rfl (pgs_cons (pg_name (i := 10) nd rfl (Or.inl rfl) (.inr rfl)) (pgs_cons (pg_name (i := 11) nd rfl (Or.inl rfl) (.inr rfl)) pgs_nil))) (fun _ _ _ _ _ => pts_nil) (fun _ _ _ _ _ => (pe_tup (pa_cons pe_str (pa_cons (pv 9) (pa_cons (pv 10) (pa_cons (pv 11) pa_nil)))))))))))
    (pss_one (ps_ret (pe_tup (pa_cons pe_str (pa_cons (pv 2) (pa_cons (pv 3) (pa_cons (pv 4) (pa_cons (pe_callB (cr_sortD (enc := Fact.d) hr.units) (by rfl) mSorted (by decide +kernel) (pa_cons (pv 5) pa_nil)) pa_nil)))))))))))), ?_⟩
  refine ⟨by show 3 ≤ sizeLine; decide, fun q1 nq1 => ?_⟩
  have mq1 := same_new nq1 (o := .lst [.str "red", .str "blue", .str "gold"])
  have eq1 : upd H q1 (.lst [.str "red", .str "blue", .str "gold"]) q1 = some (.lst [.str "red", .str "blue", .str "gold"]) := upd_same
  generalize upd H q1 (.lst [.str "red", .str "blue", .str "gold"]) = H1 at mq1 eq1 ⊢
  refine ⟨_, rfl, g, 4, _, rfl, gen.same mq1, by decide, by decide, by omega, fun r1 H2 r10 r11 gen2 b2 => ?_⟩
  refine ⟨_, rfl, q1, _, rfl, SqL.of ((b2 q1 (gen.ne nq1)).trans eq1), fun pm nm => ?_⟩
  rw [cut_take r10, show ([V.str "red", .str "blue", .str "gold"].take r1.toNat) = ((["red", "blue", "gold"] : List Str).take r1.toNat).map V.str by rw [List.map_take]; rfl]
  have hMS : ∃ k, k ≤ 3 ∧ (["red", "blue", "gold"] : List Str).take r1.toNat = (["red", "blue", "gold"] : List Str).take k := ⟨r1.toNat, by omega, rfl⟩
  generalize hms : (["red", "blue", "gold"] : List Str).take r1.toNat = MS at hMS ⊢
  have mm := same_new nm (o := .lst (MS.map V.str))
  have em : upd H2 pm (.lst (MS.map V.str)) pm = some (.lst (MS.map V.str)) := upd_same
  generalize upd H2 pm (.lst (MS.map V.str)) = H3 at mm em ⊢
  -- columns
  refine ⟨by show 2 ≤ sizeLine; decide, fun q2 nq2 => ?_⟩
  have mq2 := same_new nq2 (o := .lst [.str "next", .str "below"])
  have eq2 : upd H3 q2 (.lst [.str "next", .str "below"]) q2 = some (.lst [.str "next", .str "below"]) := upd_same
  generalize upd H3 q2 (.lst [.str "next", .str "below"]) = H4 at mq2 eq2 ⊢
  have k3 : Keep g H H3 := ((Keep.of_same mq1).trans (Keep.of_but b2)).trans (Keep.of_same mm)
  have gen3 := gen2.same mm
  refine ⟨_, rfl, g, 2, _, rfl, gen3.same mq2, by decide, by decide, by omega, fun r2 H5 r20 r21 gen5 b5 => ⟨_, _, rfl, rfl, _, rfl, q2, _, rfl, SqL.of ((b5 q2 (gen3.ne nq2)).trans eq2), fun pc nc => ?_⟩⟩
  rw [cut_take (show 0 ≤ 1 + r2 by omega), show ([V.str "next", .str "below"].take (1 + r2).toNat) = ((["next", "below"] : List Str).take (1 + r2).toNat).map V.str by rw [List.map_take]; rfl]
  have hCS : ∃ k, 1 ≤ k ∧ k ≤ 2 ∧ (["next", "below"] : List Str).take (1 + r2).toNat = (["next", "below"] : List Str).take k := ⟨(1 + r2).toNat, by omega, by omega, rfl⟩
  generalize hcs : (["next", "below"] : List Str).take (1 + r2).toNat = CS at hCS ⊢
  have mc := same_new nc (o := .lst (CS.map V.str))
  have ec : upd H5 pc (.lst (CS.map V.str)) pc = some (.lst (CS.map V.str)) := upd_same
  generalize upd H5 pc (.lst (CS.map V.str)) = H6 at mc ec ⊢
  have k6 : Keep g H H6 := ((k3.trans (Keep.of_same mq2)).trans (Keep.of_but b5)).trans (Keep.of_same mc)
  have gen6 := gen5.same mc
  have nmg : pm ≠ g := gen2.ne nm
  have ncg : pc ≠ g := gen5.ne nc
  have em6 : H6 pm = some (.lst (MS.map V.str)) := mc _ _ ((b5 pm nmg).trans (mq2 _ _ em))
  -- items, facts
  refine ⟨_, _, rfl, _, rfl, _, rfl, g, m, _, rfl, hm, gen6, by omega, fun pi ns H7 rise few k7 ni ei gen7 => ⟨Nat.zero_le _, fun pf nf => ⟨_, _, rfl, ?_⟩⟩⟩
  have mf := same_new nf (o := .lst [])
  have ef : upd H7 pf (.lst []) pf = some (.lst []) := upd_same
  generalize upd H7 pf (.lst []) = H8 at mf ef ⊢
  have k8 : Keep g H H8 := (k6.trans k7).trans (Keep.of_same mf)
  have gen8 : Gen H8 g (n + 400) := (gen7.same mf).mono (by omega)
  have nig : pi ≠ g := gen6.ne ni
  have em8 : H8 pm = some (.lst (MS.map V.str)) := mf _ _ (k7 _ _ nmg em6)
  have ec8 : H8 pc = some (.lst (CS.map V.str)) := mf _ _ (k7 _ _ ncg ec)
  have ei8 : H8 pi = some (.lst (ns.map V.int)) := mf _ _ ei
  have nodn := rise.nodup
  have nodM : MS.Nodup := by rw [← hms]; exact (List.take_sublist _ _).nodup (by decide)
  have nodC : CS.Nodup := by rw [← hcs]; exact (List.take_sublist _ _).nodup (by decide)
  have lenM : MS.length ≤ 3 := by rw [← hms, List.length_take]; exact Nat.min_le_right _ _
  have lenC : CS.length ≤ 2 := by rw [← hcs, List.length_take]; exact Nat.min_le_right _ _
  -- the marks
  refine ⟨_, rfl, pm, rfl, ⟨_, SqL.of em8⟩, for_list (K := K) (a := pm) (xs := MS.map V.str) (fun i σ H' => ∃ (pf : Addr) (fs : List Fact) (rs : List V) (y6 y7 : Option V), σ = [some (.ref g), some (.int m), some (.ref pm), some (.ref pc), some (.ref pi), some (.ref pf), y6, y7, none, none, none, none] ∧ pf ≠ g ∧ H' pf = some (.lst rs) ∧ rs.length ≤ 100 * i ∧ Tups H' rs (fs.map Fact.v) ∧ fs.Nodup ∧ (∀ x ∈ fs, ∃ mk it, x = .mark mk it ∧ mk ∈ MS.take i ∧ it ∈ ns) ∧ Keep g H8 H' ∧ Gen H' g (n + 400 + 400 * i))
    ⟨pf, [], [], none, none, rfl, gen7.ne nf, ef, Nat.le_refl _, .nil, List.nodup_nil, (fun x h => by cases h), Keep.refl g H8, gen8.mono (by omega)⟩ (fun i σ H' _ hP => ?_) (fun i x σ H' hx hP => ?_) fun σ H' hP => ?_⟩
  · obtain ⟨pf, fs, rs, y6, y7, rfl, npf, ef, hl, tp, nf, al, kp, gn⟩ := hP
    exact SqL.of (kp _ _ nmg em8)
  · obtain ⟨pf, fs, rs, y6, y7, rfl, npf, ef, hl, tp, nodf, al, kp, gn⟩ := hP
    obtain ⟨mk, hmk, rfl⟩ := at_map hx
    have hi : i < MS.length := (List.getElem?_eq_some_iff.mp hmk).1
    refine ⟨_, rfl, g, 3, _, rfl, gn, by decide, by decide, by omega, fun r H9 r0 r1' gn9 b9 => ⟨_, _, rfl, rfl, ?_⟩⟩
    have k9 : Keep g H8 H9 := kp.trans (Keep.of_but b9)
    refine ⟨_, rfl, _, rfl, pi, rfl, ⟨_, SqL.of (k9 _ _ nig ei8)⟩, fun D nD => lc_list (K := K) (a := pi) (xs := ns.map V.int) (fun k H' => ∃ (fs' : List Fact) (rs' : List V), H' D = some (.lst rs') ∧ rs'.length ≤ k ∧ Tups H' rs' (fs'.map Fact.v) ∧ fs'.Sublist ((ns.map (Fact.mark mk)).take k) ∧ Keep g H9 H' ∧ Gen H' g (n + 400 + 400 * i + 3 + 3 * k))
      ⟨[], [], upd_same, Nat.le_refl _, .nil, List.nil_sublist _, Keep.of_same (same_new nD), (gn9.same (same_new nD)).mono (by omega)⟩ (fun k H' _ hP => ?_) (fun k x H' hx hP => ?_) fun H' hP => ?_⟩
    · obtain ⟨fs', rs', eD, hl', tp', sb, kp', gn'⟩ := hP
      exact SqL.of (kp' _ _ nig (k9 _ _ nig ei8))
    · obtain ⟨fs', rs', eD, hl', tp', sb, kp', gn'⟩ := hP
      obtain ⟨it, hit, rfl⟩ := at_map hx
      have nDg : D ≠ g := gn9.ne nD
      have gz : (ns.map (Fact.mark mk))[k]? = some (.mark mk it) := by rw [List.getElem?_map, hit]; rfl
      have hk : k < ns.length := (List.getElem?_eq_some_iff.mp hit).1
      refine ⟨rfl, _, rfl, _, rfl, g, _, _, rfl, gn', by omega, by omega, by omega, fun q H10 q0 q1 gn10 b10 => ⟨rfl, _, rfl, ite2 (fun c2 => ?_) fun c2 => ?_⟩⟩
      · have eD10 : H10 D = some (.lst rs') := (b10 D nDg).trans eD
        refine ⟨_, rfl, _, rfl, by show 3 ≤ sizeLine; decide, fun T nT => ?_⟩
        have mT := same_new nT (o := .tup [.str "mark", .str mk, .int it])
        have eT : upd H10 T (.tup [.str "mark", .str mk, .int it]) T = some (.tup [.str "mark", .str mk, .int it]) := upd_same
        generalize upd H10 T (.tup [.str "mark", .str mk, .int it]) = H11 at mT eT ⊢
        have eD11 := mT _ _ eD10
        refine ⟨rs', eD11, small1000 (by omega), fs' ++ [.mark mk it], rs' ++ [.ref T], upd_same, ?_, ?_, sub_put sb gz, ?_, ?_⟩
        · rw [List.length_append, List.length_singleton]
          omega
        · rw [List.map_append]
          exact (Tups.put eT ((tp'.keep (tk_keep (Keep.of_but b10) gn')).keep (tk_same mT))).keep (tk_lst eD11)
        · exact ((kp'.trans (Keep.of_but b10)).trans (Keep.of_same mT)).upd_new nD
        · exact ((gn10.same mT).upd nDg.symm).mono (by omega)
      · exact ⟨fs', rs', (b10 D nDg).trans eD, by omega, tp'.keep (tk_keep (Keep.of_but b10) gn'), sub_skip sb gz, kp'.trans (Keep.of_but b10), gn10.mono (by omega)⟩
    · obtain ⟨fs', rs', eD, hl', tp', sb, kp', gn'⟩ := hP
      rw [List.length_map] at hl' sb gn'
      have npD : pf ≠ D := ne_of_none ((b9 pf npf).trans ef) nD
      have ef9 := kp' _ _ npf ((b9 pf npf).trans ef)
      refine ⟨pf, D, _, _, rfl, rfl, ef9, eD, Nat.le_trans (show rs.length + rs'.length ≤ 1000 by omega) (by decide), fun p7 n7 => ?_⟩
      have m7 := same_new n7 (o := .lst (rs ++ rs'))
      have sub' : fs'.Sublist (ns.map (Fact.mark mk)) := sb.trans (List.take_sublist _ _)
      have tke := take_next hmk
      refine ⟨p7, fs ++ fs', rs ++ rs', _, _, rfl, gn'.ne n7, upd_same, ?_, ?_, ?_, fun x hx => ?_, (k9.trans kp').trans (Keep.of_same m7), (gn'.same m7).mono (by omega)⟩
      · rw [List.length_append]
        omega
      · rw [List.map_append]
        exact (Tups.append ((tp.keep (tk_keep (Keep.of_but b9) gn)).keep (tk_keep kp' gn9)) tp').keep (tk_same m7)
      · refine List.nodup_append.mpr ⟨nodf, sub'.nodup (List.pairwise_map.mpr (nodn.imp fun h e => h (by cases e; rfl))), fun x hx y hy e => ?_⟩
        obtain ⟨mk', it', rfl, hm', _⟩ := al x hx
        obtain ⟨it2, _, e2⟩ := List.mem_map.mp (sub'.subset hy)
        rw [← e2] at e
        cases e
        have z : (MS.take i ++ [mk]).Nodup := by
          rw [← tke]
          exact (List.take_sublist _ _).nodup nodM
        exact (List.nodup_append.mp z).2.2 mk hm' mk (List.mem_singleton.mpr rfl) rfl
      · rcases List.mem_append.mp hx with z | z
        · obtain ⟨mk', it', e, hm', hi'⟩ := al x z
          exact ⟨mk', it', e, by rw [tke]; exact List.mem_append_left _ hm', hi'⟩
        · obtain ⟨it2, h2, e2⟩ := List.mem_map.mp (sub'.subset z)
          exact ⟨mk, it2, e2.symm, by rw [tke]; exact List.mem_append_right _ (List.mem_singleton.mpr rfl), h2⟩
  obtain ⟨pf', fs0, rs0, y6, y7, rfl, npf0, ef0, hl0, tp0, nod0, al0, kp0, gn0⟩ := hP
  rw [List.length_map] at hl0 gn0 al0
  refine ⟨_, rfl, pc, rfl, ⟨_, SqL.of (kp0 _ _ ncg ec8)⟩, for_list (K := K) (a := pc) (xs := CS.map V.str) (fun i σ H' => ∃ (pf : Addr) (fs : List Fact) (rs : List V) (y9 : Option V), σ = [some (.ref g), some (.int m), some (.ref pm), some (.ref pc), some (.ref pi), some (.ref pf), y6, y7, none, y9, none, none] ∧ pf ≠ g ∧ H' pf = some (.lst rs) ∧ rs.length ≤ 400 + 100 * i ∧ Tups H' rs (fs.map Fact.v) ∧ fs.Nodup ∧ (∀ x ∈ fs, Fact.of ⟨MS, CS.take i, ns, []⟩ x) ∧ (∀ c, OneToOne ns (linksOf c fs)) ∧ Keep g H8 H' ∧ Gen H' g (n + 2000 + 2200 * i))
    ⟨pf', fs0, rs0, none, rfl, npf0, ef0, by omega, tp0, nod0, (fun x h => by
      obtain ⟨mk, it, rfl, h1, h2⟩ := al0 x h
      exact ⟨List.mem_of_mem_take h1, h2⟩), (fun c => by
      rw [links_marks fun x h => let ⟨mk, it, e, _⟩ := al0 x h; ⟨mk, it, e⟩]
      exact oneToOne_nil ns), kp0, gn0.mono (by omega)⟩ (fun i σ H' _ hP => ?_) (fun i x σ H' hx hP => ?_) fun σ H' hP => ?_⟩
  · obtain ⟨pf, fs, rs, y9, rfl, npf, ef, hl, tp, nf, al, oo, kp, gn⟩ := hP
    exact SqL.of (kp _ _ ncg ec8)
  · obtain ⟨pf, fs, rs, y9, rfl, npf, ef, hl, tp, nodf, al, oo, kp, gn⟩ := hP
    obtain ⟨cc, hcc, rfl⟩ := at_map hx
    have hi : i < CS.length := (List.getElem?_eq_some_iff.mp hcc).1
    refine ⟨_, rfl, _, rfl, _, rfl, g, pi, ns, _, rfl, SqL.of (kp _ _ nig ei8), nig, nodn, gn, by omega, by omega, fun pp rsP ps H9 o9 k9 nP eP tpP gn9 => ?_⟩
    have npp : pp ≠ g := gn.ne nP
    have lenP : rsP.length = ps.length := by rw [tpP.length, List.length_map]
    have lenPs := o9.len
    have nodps := o9.nodup
    refine ⟨_, rfl, ⟨_, SqL.of eP⟩, fun D nD => lc_list (K := K) (a := pp) (xs := rsP) (fun k H' => ∃ (rs' : List V), H' D = some (.lst rs') ∧ rs'.length ≤ k ∧ Tups H' rs' (((ps.take k).map fun p => Fact.link cc p.1 p.2).map Fact.v) ∧ Keep g H9 H' ∧ Gen H' g (n + 2000 + 2200 * i + 20 * ns.length + 100))
      ⟨[], upd_same, Nat.le_refl _, .nil, Keep.of_same (same_new nD), gn9.same (same_new nD)⟩ (fun k H' _ hP => ?_) (fun k x H' hx hP => ?_) fun H' hP => ?_⟩
    · obtain ⟨rs', eD, hl', tp', kp', gn'⟩ := hP
      exact SqL.of (kp' _ _ npp eP)
    · obtain ⟨rs', eD, hl', tp', kp', gn'⟩ := hP
      obtain ⟨a, t, rfl, ha, ht⟩ := tpP.get hx
      obtain ⟨p, hp, rfl⟩ := at_map ht
      have nDg : D ≠ g := gn9.ne nD
      have hk : k < ps.length := (List.getElem?_eq_some_iff.mp hp).1
      have ha' : H' a = some (.tup (pairV p)) := tk_keep kp' gn9 _ _ ha
      refine ⟨a, pairV p, rfl, .inl (.inl ha'), rfl, ?_⟩
      refine ⟨.int p.1, [.int p.2], rfl, .int p.2, [], rfl, rfl, rfl, _, rfl, _, rfl, _, rfl, by show 4 ≤ sizeLine; decide, fun T nT => ?_⟩
      have mT := same_new nT (o := .tup [.str "link", .str cc, .int p.1, .int p.2])
      have eT : upd H' T (.tup [.str "link", .str cc, .int p.1, .int p.2]) T = some (.tup [.str "link", .str cc, .int p.1, .int p.2]) := upd_same
      generalize upd H' T (.tup [.str "link", .str cc, .int p.1, .int p.2]) = H11 at mT eT ⊢
      have eD11 := mT _ _ eD
      refine ⟨rs', eD11, small1000 (by omega), rs' ++ [.ref T], upd_same, ?_, ?_, ?_, ?_⟩
      · rw [List.length_append, List.length_singleton]
        omega
      · rw [take_next hp, List.map_append, List.map_append]
        exact (Tups.put eT (tp'.keep (tk_same mT))).keep (tk_lst eD11)
      · exact (kp'.trans (Keep.of_same mT)).upd_new nD
      · exact (gn'.same mT).upd nDg.symm
    · obtain ⟨rs', eD, hl', tp', kp', gn'⟩ := hP
      rw [lenP] at hl' tp'
      rw [List.take_length] at tp'
      have npD : pf ≠ D := ne_of_none (k9 _ _ npf ef) nD
      have ef9 := kp' _ _ npf (k9 _ _ npf ef)
      refine ⟨pf, D, _, _, rfl, rfl, ef9, eD, Nat.le_trans (show rs.length + rs'.length ≤ 1000 by omega) (by decide), fun p7 n7 => ?_⟩
      have m7 := same_new n7 (o := .lst (rs ++ rs'))
      have tke := take_next hcc
      have ncc : cc ∉ CS.take i := fun h => by
        have z : (CS.take i ++ [cc]).Nodup := by
          rw [← tke]
          exact (List.take_sublist _ _).nodup nodC
        exact (List.nodup_append.mp z).2.2 cc h cc (List.mem_singleton.mpr rfl) rfl
      have out : linksOf cc fs = [] := links_out al ncc
      refine ⟨p7, fs ++ ps.map (fun p => Fact.link cc p.1 p.2), rs ++ rs', _, rfl, gn'.ne n7, upd_same, ?_, ?_, ?_, fun x hx => ?_, fun c => ?_, ((kp.trans k9).trans kp').trans (Keep.of_same m7), (gn'.same m7).mono (by omega)⟩
      · rw [List.length_append]
        omega
      · rw [List.map_append]
        exact (Tups.append ((tp.keep (tk_keep k9 gn)).keep (tk_keep kp' gn9)) tp').keep (tk_same m7)
      · refine List.nodup_append.mpr ⟨nodf, List.pairwise_map.mpr (nodps.imp fun {x y} h e => h (by injection e with _ e1 e2; exact Prod.ext e1 e2)), fun x hx y hy e => ?_⟩
        obtain ⟨p2, _, e2⟩ := List.mem_map.mp hy
        rw [← e] at e2
        have z := al x hx
        rw [← e2] at z
        exact ncc z.1
      · rcases List.mem_append.mp hx with z | z
        · have w0 := al x z
          cases x with
          | mark a b => exact w0
          | link a b c => exact ⟨by rw [tke]; exact List.mem_append_left _ w0.1, w0.2⟩
        · obtain ⟨p2, h2, e2⟩ := List.mem_map.mp z
          rw [← e2]
          exact ⟨by rw [tke]; exact List.mem_append_right _ (List.mem_singleton.mpr rfl), o9.2.2 p2 h2⟩
      · rw [links_append]
        by_cases ec : cc = c
        · rw [← ec, out, List.nil_append, links_self]
          exact o9
        · rw [links_other ec, List.append_nil]
          exact oo c
  · obtain ⟨pf, fs, rs, y9, rfl, npf, ef, hl, tp, nodf, al, oo, kp, gn⟩ := hP
    rw [List.length_map] at hl al gn
    rw [List.take_length] at al
    have lenR : rs.length = fs.length := by rw [tp.length, List.length_map]
    have z1 : (rs.zip fs).map (·.1) = rs := List.map_fst_zip (Nat.le_of_eq lenR)
    have z2 : (rs.zip fs).map (·.2) = fs := List.map_snd_zip (Nat.le_of_eq lenR.symm)
    refine ⟨_, rfl, _, rfl, _, rfl, _, rfl, pf, rs.zip fs, rfl, ?_, fun z hz => ?_, ?_, Or.inl fun d hd => ?_, fun z hz => fact_depth _, fun p hp => ?_⟩
    · rw [z1]
      exact SqL.of ef
    · obtain ⟨a, e, h⟩ := tp.zip z hz
      rw [e]
      exact fact_dp h
    · intro d hd d' hd'
      obtain ⟨x, _, rfl⟩ := List.mem_map.mp hd
      obtain ⟨y, _, rfl⟩ := List.mem_map.mp hd'
      exact fact_alike _ _
    · obtain ⟨x, _, rfl⟩ := List.mem_map.mp hd
      exact fact_tuple _
    · refine ⟨by show 5 ≤ sizeLine; decide, fun T nT => ?_⟩
      have pmZ := List.mergeSort_perm (rs.zip fs) (PySem.W.dataLe false fun z => z.2.d)
      have ri := sorted_rise (zs := rs.zip fs) (by rw [z2]; exact nodf)
      have tz : ∀ z ∈ (rs.zip fs).mergeSort (PySem.W.dataLe false fun z => z.2.d), ∃ a, z.1 = .ref a ∧ H' a = some (.tup z.2.v) := fun z hz => tp.zip z (pmZ.subset hz)
      generalize hzs : (rs.zip fs).mergeSort (PySem.W.dataLe false fun z => z.2.d) = zs at pmZ ri tz nT ⊢
      have pf2 : (zs.map (·.2)).Perm fs := by
        have := pmZ.map (·.2)
        rwa [z2] at this
      have mp := same_new hp (o := .lst (zs.map (·.1)))
      have ep : upd H' p (.lst (zs.map (·.1))) p = some (.lst (zs.map (·.1))) := upd_same
      generalize upd H' p (.lst (zs.map (·.1))) = H11 at mp ep nT ⊢
      have mT := same_new nT (o := .tup [.str "store", .ref pm, .ref pc, .ref pi, .ref p])
      have eT : upd H11 T (.tup [.str "store", .ref pm, .ref pc, .ref pi, .ref p]) T = some (.tup [.str "store", .ref pm, .ref pc, .ref pi, .ref p]) := upd_same
      generalize upd H11 T (.tup [.str "store", .ref pm, .ref pc, .ref pi, .ref p]) = H12 at mT eT ⊢
      have kH := kp
      refine q (.ref T) ⟨MS, CS, ns, zs.map (·.2)⟩ _ ⟨hMS, hCS, rise, few, by rw [pf2.length_eq, ← lenR]; omega, ri, fun x hx => ?_, fun c => (oo c).perm (links_perm pf2)⟩ (((k8.trans kp).trans (Keep.of_same mp)).trans (Keep.of_same mT)) ⟨T, pm, pc, pi, p, zs.map (·.1), rfl, eT, mT _ _ (mp _ _ (kp _ _ nmg em8)), mT _ _ (mp _ _ (kp _ _ ncg ec8)), mT _ _ (mp _ _ (kp _ _ nig ei8)), mT _ _ ep, ((tups_of zs tz).keep (tk_same mp)).keep (tk_same mT)⟩ ⟨T, pm, pc, pi, p, zs.map (·.1), rfl, (del_ne (((gn.same mp).ne nT))).trans eT, (del_ne nmg).trans (mT _ _ (mp _ _ (kp _ _ nmg em8))), (del_ne ncg).trans (mT _ _ (mp _ _ (kp _ _ ncg ec8))), (del_ne nig).trans (mT _ _ (mp _ _ (kp _ _ nig ei8))), (del_ne (gn.ne hp)).trans (mT _ _ ep), (((tups_of zs tz).keep (tk_same mp)).keep (tk_same mT)).keep (tk_del ((gn.same mp).same mT))⟩ (((gn.same mp).same mT).mono (by omega))
      have w0 := al x (pf2.subset hx)
      cases x with
      | mark a b => exact w0
      | link a b c => exact w0
end
end DQ

set_option Elab.async false
set_option linter.all false
set_option maxRecDepth 100000
set_option maxHeartbeats 2000000
namespace DQ
open PySem PySem.Spec PyProof.Rows L2
section
variable {X : Cx} {CX : CXT} {k : Nat} {f : Addr} {fd : FuncData} {ps : List Str} {sp : Sp} {dvs : List V} {ds : List Value} {E : XK} {x : Str} {p pos : Pos}
/-- f() of a def that is shown for calls around which no guard is -/
theorem pe_callGd0 (F : FnG X.prog X.w X.K X.mg X.base CX k f fd ps sp) (hr : Room k X.A) (hG : X.A.guards = some []) (hg : Gl X x) (hm : X.mg x = some (.ref f)) (hk : PySem.W.keepIn X.K (.ref f) = true) (hb : Binds X.K fd ps ds) (hd : Vals dvs ds) (hx : Passes CX X E)
    (hdb : (x == ("__debug__" : Str)) = false := by decide) : PE X (.Call (.Name x p) [] [] pos) (tCall sp dvs E tNil) := by
  refine ⟨fun pins s σ H Q I h => ?_⟩
  refine wpAny_Call_Name_kw (ld_glob I hg hm ?_ hdb)
  exact PySem.W.callWith_K0 I.kIn hk (run_fnG (us := []) F hr hG hb hd hx I .nil h)
end
end DQ

set_option Elab.async false
set_option linter.all false
set_option maxRecDepth 100000
set_option maxHeartbeats 4000000
namespace DQ
open PySem PySem.Spec PyProof.Rows L2
/-! ### the law -/
abbrev sLaw : Stmt := topS 43
abbrev NLw : List Str := ["script", "index", "generator", "store", "bad", "many", "thing", "told"]
theorem scLaw : FnScope NLw ["script"] (defScope sLaw) := ⟨rfl, rfl, rfl, by decide +kernel, rfl, by decide +kernel, by decide +kernel⟩
def spLaw (K : PySem.W.Frag) : Sp := fun vs H Q _ => ∃ (a : Addr) (ns : List Int), vs = [.ref a] ∧ SqL K H a (ns.map V.int) ∧ ∀ H', Q (.bl true) H'
def badM : List PyData := [.none, .str "red", .tuple [.str "red"], .list [.str "red", .str "red"], .list [.str "some"], .list [.none], .list [.str "a", .str "b", .str "c", .str "d", .str "e"], .dict []]
def badC : List PyData := [.none, .str "next", .tuple [.str "next"], .list [.str "next", .str "next"], .list [.str "red"], .list [.str "a", .str "b", .str "c"], .list [.str "all"], .list [.int 7]]
def badI : List PyData := [.none, .int 7, .tuple [.int 1], .list [.int (-1)], .list [.bool true], .list [.int 1000000001], .list [.str "1"], .list [.none], .list [.list [.int 1]], .list [.int 1, .none], .list [.int 2, .str "1"], .list [.list [.int 1], .int 1]]
def badF : List PyData := [.none, .int 7, .tuple [.tuple [.str "mark", .str "red", .int 1]], .str "mark", .dict []]
/-- what is asked of four written arguments -/
def Goes (dm dc di df : PyData) (k : Nat) (d : PyData) : Prop := endOf dm dc di df = some (k, d) ∧ tinyB (.list [dm, dc, di, df]) = true ∧ okAll dm dc di df = true
theorem badM_end : ∀ d ∈ badM, Goes d .none .none .none 0 d ∧ Goes d (.list []) (.list []) (.list []) 0 d ∧ tinyB d = true := fun d hd => by
  simp only [badM, List.mem_cons, List.not_mem_nil, or_false] at hd
  rcases hd with rfl | rfl | rfl | rfl | rfl | rfl | rfl | rfl <;> exact ⟨⟨by rfl, by decide +kernel, by decide +kernel⟩, ⟨by rfl, by decide +kernel, by decide +kernel⟩, by decide +kernel⟩
theorem badC_end : ∀ d ∈ badC, Goes (.list [.str "red"]) d .none .none 0 d ∧ tinyB d = true := fun d hd => by
  simp only [badC, List.mem_cons, List.not_mem_nil, or_false] at hd
  rcases hd with rfl | rfl | rfl | rfl | rfl | rfl | rfl | rfl <;> exact ⟨⟨by rfl, by decide +kernel, by decide +kernel⟩, by decide +kernel⟩
theorem badI_end : ∀ d ∈ badI, Goes (.list [.str "red"]) (.list [.str "next"]) d .none 0 d ∧ tinyB d = true := fun d hd => by
  simp only [badI, List.mem_cons, List.not_mem_nil, or_false] at hd
  rcases hd with rfl | rfl | rfl | rfl | rfl | rfl | rfl | rfl | rfl | rfl | rfl | rfl <;> exact ⟨⟨by rfl, by decide +kernel, by decide +kernel⟩, by decide +kernel⟩
theorem badF_end : ∀ d ∈ badF, Goes (.list [.str "red"]) (.list [.str "next"]) (.list [.int 1]) d 0 d ∧ tinyB d = true := fun d hd => by
  simp only [badF, List.mem_cons, List.not_mem_nil, or_false] at hd
  rcases hd with rfl | rfl | rfl | rfl | rfl <;> exact ⟨⟨by rfl, by decide +kernel, by decide +kernel⟩, by decide +kernel⟩
/-! many items -/
def rng (n : Nat) : List Int := (List.range n).map fun i : Nat => (i : Int)
theorem rng_len (n : Nat) : (rng n).length = n := by unfold rng; rw [List.length_map, List.length_range]
theorem mem_rng {n : Nat} {i : Int} : i ∈ rng n ↔ 0 ≤ i ∧ i < n := by
  unfold rng
  rw [List.mem_map]
  exact ⟨fun ⟨j, hj, e⟩ => by have := List.mem_range.mp hj; omega, fun ⟨h0, h1⟩ => ⟨i.toNat, List.mem_range.mpr (by omega), by omega⟩⟩
theorem rng_lt (n : Nat) : (rng n).Pairwise (· < ·) := List.pairwise_map.mpr (List.pairwise_lt_range.imp fun h => by omega)
theorem rng_nd (n : Nat) : (rng n).Nodup := (rng_lt n).imp fun h e => by omega
theorem rgV_rng (n : Nat) : rgV 0 (n : Int) = (rng n).map V.int := by
  unfold rgV rng
  rw [List.map_map, show ((n : Int) - 0).toNat = n by omega]
  exact List.map_congr_left fun i _ => by show V.int (0 + (i : Int)) = V.int i; rw [Int.zero_add]
theorem rng_take {n m : Nat} (h : m ≤ n) : (rng n).take m = rng m := by
  unfold rng
  rw [← List.map_take, List.take_range, Nat.min_eq_left h]
theorem onces_rng {n : Nat} {ns : List Int} (h : ∀ i, i ∈ ns ↔ i ∈ rng n) : (onces ns).Perm (rng n) :=
  (List.perm_ext_iff_of_nodup (onces_facts _ ns rfl).1 (rng_nd n)).mpr fun i => ((onces_facts _ ns rfl).2.1 i).trans (h i)
theorem sort_rng {n : Nat} {ns : List Int} (h : ∀ i, i ∈ ns ↔ i ∈ rng n) : sortI (onces ns) = rng n := (sortI_of (onces_rng h).symm ((rng_lt n).imp fun h => Int.le_of_lt h)).symm
theorem sm_big {ns : List Int} (h : ∀ x ∈ ns, 0 ≤ x ∧ x ≤ 1000000000) (l : ns.length ≤ 2100) : Sm 1 140000 (.list (ns.map PyData.int)) := ((smAll (k := 0) (n := 64) fun d hd => by
  obtain ⟨x, hx, rfl⟩ := List.mem_map.mp hd
  exact sm_item (h x hx)).list (m := 2100) (by rw [List.length_map]; exact l)).mono (by decide) (by decide)
theorem big_shows {ns : List Int} (h : ∀ x ∈ ns, 0 ≤ x ∧ x ≤ 1000000000) (l : ns.length ≤ 2100) {d : PyData} (hd : Sm 1 140000 d) : ShowsZ (.list [.list [], .list [], .list (ns.map PyData.int), d]) := by
  have e : Sm 1 140000 (.list []) := ((smAll (k := 0) (n := 64) (ds := []) fun d hd => by cases hd).list (m := 0) (Nat.le_refl _)).mono (by decide) (by decide)
  have b := sm_big h l
  exact (((smAll (k := 1) (n := 140000) (ds := [.list [], .list [], .list (ns.map PyData.int), d]) fun x hx => by
    simp only [List.mem_cons, List.not_mem_nil, or_false] at hx
    rcases hx with rfl | rfl | rfl | rfl
    · exact e
    · exact e
    · exact b
    · exact hd).list (m := 4) (Nat.le_refl _)).z).shows (by decide) (by decide)
theorem big_sm : Sm 2 800000 (Store.d ⟨[], [], rng 2000, []⟩) := by
  have e : Sm 1 140000 (.list []) := ((smAll (k := 0) (n := 64) (ds := []) fun d hd => by cases hd).list (m := 0) (Nat.le_refl _)).mono (by decide) (by decide)
  have b : Sm 1 140000 (.list ((rng 2000).map PyData.int)) := sm_big (fun x h => by have := mem_rng.mp h; omega) (by rw [rng_len]; decide)
  exact ((smAll (k := 1) (n := 140000) (ds := [.str "store", .list [], .list [], .list ((rng 2000).map PyData.int), .list []]) fun x hx => by
    simp only [List.mem_cons, List.not_mem_nil, or_false] at hx
    rcases hx with rfl | rfl | rfl | rfl | rfl
    · exact (sm_str (n := 10) (by decide +kernel) (by decide +kernel)).mono (by decide) (by decide)
    · exact e
    · exact e
    · exact b
    · exact e).tuple (m := 5) (Nat.le_refl _)).mono (by decide) (by decide)
theorem if_both {t1 t2 : TE} {D : Ends} {σ : L2.St} {H : Hp} (P1 P2 : Hp → Prop) (h1 : ∀ R : VK, (∀ H', P1 H' → R (.bl true) H') → t1 σ H R) (h2 : ∀ H1, P1 H1 → ∀ R : VK, (∀ H', P2 H' → R (.bl true) H') → t2 σ H1 R) (q : ∀ H', P2 H' → D.nx σ H') : tIfS (tOr (tNot (tB t1)) (tNot (tB t2))) (tRet (tC (.bl false))) tNext D σ H :=
  h1 _ fun H1 p1 => ⟨true, rfl, iteF' rfl (h2 H1 p1 _ fun H2 p2 => ⟨true, rfl, iteF' rfl (q H2 p2)⟩)⟩
theorem gif_both {t1 t2 : TE} {D : Ends} {i : Nat} {v : V} {rt bk ct} {σ : L2.St} {H : Hp} (P1 P2 : Hp → Prop) (h1 : ∀ R : VK, (∀ H', P1 H' → R (.bl true) H') → t1 (σ.set i (some v)) H R) (h2 : ∀ H1, P1 H1 → ∀ R : VK, (∀ H', P2 H' → R (.bl true) H') → t2 (σ.set i (some v)) H1 R) (q : ∀ H', P2 H' → D.nx (σ.set i (some v)) H') : (fun x H1 => gName i x σ H1 (Ends.mk (tIfS (tOr (tNot (tB t1)) (tNot (tB t2))) (tRet (tC (.bl false))) tNext D) rt bk ct).nx) v H :=
  if_both P1 P2 h1 h2 q
theorem seq_both {t1 t2 : TE} {rest : TS} {D : Ends} {σ : L2.St} {H : Hp} (P1 P2 : Hp → Prop) (h1 : ∀ R : VK, (∀ H', P1 H' → R (.bl true) H') → t1 σ H R) (h2 : ∀ H1, P1 H1 → ∀ R : VK, (∀ H', P2 H' → R (.bl true) H') → t2 σ H1 R) (q : ∀ H', P2 H' → rest D σ H') : tSeq (tIfS (tOr (tNot (tB t1)) (tNot (tB t2))) (tRet (tC (.bl false))) tNext) rest D σ H :=
  h1 _ fun H1 p1 => ⟨true, rfl, iteF' rfl (h2 H1 p1 _ fun H2 p2 => ⟨true, rfl, iteF' rfl (q H2 p2)⟩)⟩
theorem seq_both2 {t1 t2 : TE} {rest : TS} {D : Ends} {rt bk ct} {σ : L2.St} {H : Hp} (P1 P2 : Hp → Prop) (h1 : ∀ R : VK, (∀ H', P1 H' → R (.bl true) H') → t1 σ H R) (h2 : ∀ H1, P1 H1 → ∀ R : VK, (∀ H', P2 H' → R (.bl true) H') → t2 σ H1 R) (q : ∀ H', P2 H' → rest D σ H') : (Ends.mk (tSeq (tIfS (tOr (tNot (tB t1)) (tNot (tB t2))) (tRet (tC (.bl false))) tNext) rest D) rt bk ct).nx σ H :=
  h1 _ fun H1 p1 => ⟨true, rfl, iteF' rfl (h2 H1 p1 _ fun H2 p2 => ⟨true, rfl, iteF' rfl (q H2 p2)⟩)⟩
section
variable {P : Program} {w : World} {K : PySem.W.Frag} {mg : Str → Option Value} {base : Heap}
theorem ok_law {f fG fS fM fF fC fO fT fA CL CT CF : Addr} {fd dG dS dM dF dC dO dT dA : FuncData} (F : Fun K "law" "law" sLaw f fd)
    (GG : FnOk P w K mg base CX0 2 fG dG ["script", "index"] (spGenerator K)) (bG : Binds K dG ["script", "index"] []) (kG : PySem.W.keepIn K (.ref fG) = true) (mG : mg "_law_generator" = some (.ref fG))
    (GS : FnOk P w K mg base CX0 5 fS dS ["generator", "most"] spStore) (bS : Binds K dS ["generator", "most"] []) (kS : PySem.W.keepIn K (.ref fS) = true) (mS : mg "_law_drawn_store" = some (.ref fS))
    (GM : FnG P w K mg base CX0 8 fM dM ["generator", "store"] spRight) (bM : Binds K dM ["generator", "store"] []) (kM : PySem.W.keepIn K (.ref fM) = true) (mM : mg "_law_made_right" = some (.ref fM))
    (GF : FnG P w K mg base CX0 9 fF dF ["generator", "store"] spFactRef) (bF : Binds K dF ["generator", "store"] []) (kF : PySem.W.keepIn K (.ref fF) = true) (mF : mg "_law_fact_refused" = some (.ref fF))
    (GC : FnG P w K mg base CX0 8 fC dC ["marks", "columns", "items", "facts"] (spCaught K CL CT CF)) (bC : Binds K dC ["marks", "columns", "items", "facts"] []) (kC : PySem.W.keepIn K (.ref fC) = true) (mC : mg "_law_caught" = some (.ref fC))
    (GO : FnG P w K mg base CX0 1 fO dO ["told", "place", "bad"] (spOnly K)) (bO : Binds K dO ["told", "place", "bad"] []) (kO : PySem.W.keepIn K (.ref fO) = true) (mO : mg "_law_only" = some (.ref fO))
    (GT : FnG P w K mg base CX0 9 fT dT [] spSame) (bT : Binds K dT [] []) (kT : PySem.W.keepIn K (.ref fT) = true) (mT : mg "_law_same_thing" = some (.ref fT))
    (GA : FnOk P w K mg base (L2.CX P w) 7 fA dA ["marks", "columns", "items", "facts"] (spMake K CL CT CF)) (bA : Binds K dA ["marks", "columns", "items", "facts"] []) (kA : PySem.W.keepIn K (.ref fA) = true) (mA : mg "store_of" = some (.ref fA))
    (dist : [CL, CT, CF].Nodup) (mList : mg "list" = none) (mRange : mg "range" = none) : FnG P w K mg base CX0 10 f fd ["script"] (spLaw K) := by
  refine fun_okG F scLaw (fun vs H Q E h => ?_) (fun cdv A outer s H vs Q E hr hG h => ?_)
  · obtain ⟨_, _, rfl, _⟩ := h
    rfl
  obtain ⟨a, ns, rfl, L, q⟩ := h
  have nd := scLaw.nd
  have hbig : ∀ (σ : L2.St) (H : Hp) (Q : VK), True → (∀ v H', Same H H' → Lit H' (.int 1000000001) v → Q v H') → tOp (rI0 fun i j => .int (i + j)) (tLit (fun _ H => H) (fun _ _ => True) fun _ => .int 1000000000) (tC (.int 1)) σ H Q := fun σ H Q p h => ⟨p, fun v H1 s1 l1 => by
    simp only [Lit] at l1
    subst l1
    exact ⟨1000000000, 1, rfl, rfl, h _ H1 s1 (by simp only [Lit]; rfl)⟩⟩
  refine ⟨_, (pss_cons (ps_for (passes_of rfl) rfl (pi_range1 (by rfl) mRange (pa_cons pe_int pa_nil)) (pg_name (i := 1) nd rfl (.inl rfl)) (pss_cons (ps_set (i := 2) nd rfl (.inl rfl) (pe_call GG (hr.mono (by decide)) rfl mG kG bG .nil pass0 (pa_cons (pv 0) (pa_cons (pv 1) pa_nil)))) (pss_cons (ps_set (i := 3) nd rfl (.inl rfl) (pe_call GS (hr.mono (by decide)) rfl mS kS bS .nil pass0 (pa_cons (pv 2) (pa_cons pe_int pa_nil)))) (pss_one (ps_if (PW.pt (pw_or (pt_not (pt_val (pe_callGd GM (hr.mono (by decide)) hG rfl mM kM bM .nil pass0 (pa_cons (pv 2) (pa_cons (pv 3) pa_nil))))) (pw_or1 (pt_not (pt_val (pe_callGd GF (hr.mono (by decide)) hG rfl mF kF bF .nil pass0 (pa_cons (pv 2) (pa_cons (pv 3) pa_nil)))))))) (pss_one (ps_ret pe_bl)) pss_nil)))))
    (pss_cons (ps_for (passes_of rfl) rfl (pi_list (l_lst view0 (l_cons view0 l_non (l_cons view0 l_str (l_cons view0 (l_tup view0 (l_cons view0 l_str l_nil)) (l_cons view0 (l_lst view0 (l_cons view0 l_str (l_cons view0 l_str l_nil))) (l_cons view0 (l_lst view0 (l_cons view0 l_str l_nil)) (l_cons view0 (l_lst view0 (l_cons view0 l_non l_nil)) (l_cons view0 (l_lst view0 (l_cons view0 l_str (l_cons view0 l_str (l_cons view0 l_str (l_cons view0 l_str (l_cons view0 l_str l_nil)))))) (l_cons view0 (l_dct view0) l_nil)))))))))) (pg_name (i := 4) nd rfl (.inl rfl)) (pss_one (ps_if (PW.pt (pw_or (pt_not (pt_val (pe_callGd GO (hr.mono (by decide)) hG rfl mO kO bO .nil pass0 (pa_cons (pe_callGd GC (hr.mono (by decide)) hG rfl mC kC bC .nil pass0 (pa_cons (pv 4) (pa_cons pe_non (pa_cons pe_non (pa_cons pe_non pa_nil))))) (pa_cons pe_int (pa_cons (pv 4) pa_nil)))))) (pw_or1 (pt_not (pt_val (pe_callGd GO (hr.mono (by decide)) hG rfl mO kO bO .nil pass0 (pa_cons (pe_callGd GC (hr.mono (by decide)) hG rfl mC kC bC .nil pass0 (pa_cons (pv 4) (pa_cons (l_lst view0 l_nil) (pa_cons (l_lst view0 l_nil) (pa_cons (l_lst view0 l_nil) pa_nil))))) (pa_cons pe_int (pa_cons (pv 4) pa_nil))))))))) (pss_one (ps_ret pe_bl)) pss_nil)))
    (pss_cons (ps_for (passes_of rfl) rfl (pi_list (l_lst view0 (l_cons view0 l_non (l_cons view0 l_str (l_cons view0 (l_tup view0 (l_cons view0 l_str l_nil)) (l_cons view0 (l_lst view0 (l_cons view0 l_str (l_cons view0 l_str l_nil))) (l_cons view0 (l_lst view0 (l_cons view0 l_str l_nil)) (l_cons view0 (l_lst view0 (l_cons view0 l_str (l_cons view0 l_str (l_cons view0 l_str l_nil)))) (l_cons view0 (l_lst view0 (l_cons view0 l_str l_nil)) (l_cons view0 (l_lst view0 (l_cons view0 l_int l_nil)) l_nil)))))))))) (pg_name (i := 4) nd rfl (.inl rfl)) (pss_one (ps_if (pt_not (pt_val (pe_callGd GO (hr.mono (by decide)) hG rfl mO kO bO .nil pass0 (pa_cons (pe_callGd GC (hr.mono (by decide)) hG rfl mC kC bC .nil pass0 (pa_cons (l_lst view0 (l_cons view0 l_str l_nil)) (pa_cons (pv 4) (pa_cons pe_non (pa_cons pe_non pa_nil))))) (pa_cons pe_int (pa_cons (pv 4) pa_nil)))))) (pss_one (ps_ret pe_bl)) pss_nil)))
    (pss_cons (ps_for (passes_of rfl) rfl (pi_list (l_lst view0 (l_cons view0 l_non (l_cons view0 l_int (l_cons view0 (l_tup view0 (l_cons view0 l_int l_nil)) (l_cons view0 (l_lst view0 (l_cons view0 l_neg l_nil)) (l_cons view0 (l_lst view0 (l_cons view0 l_bl l_nil)) (l_cons view0 (l_lst view0 (l_cons view0 (l_of (d := fun _ => .int 1000000001) (pe_op op_add (l_pow (vw := fun _ H => H) (Pre := fun _ _ => True) (c := 1000000000) ⟨by decide, by decide, by decide⟩ (by decide +kernel) (op_powC ⟨by decide, by decide, by decide⟩ (by decide +kernel))) pe_int) hbig) l_nil)) (l_cons view0 (l_lst view0 (l_cons view0 l_str l_nil)) (l_cons view0 (l_lst view0 (l_cons view0 l_non l_nil)) (l_cons view0 (l_lst view0 (l_cons view0 (l_lst view0 (l_cons view0 l_int l_nil)) l_nil)) (l_cons view0 (l_lst view0 (l_cons view0 l_int (l_cons view0 l_non l_nil))) (l_cons view0 (l_lst view0 (l_cons view0 l_int (l_cons view0 l_str l_nil))) (l_cons view0 (l_lst view0 (l_cons view0 (l_lst view0 (l_cons view0 l_int l_nil)) (l_cons view0 l_int l_nil))) l_nil)))))))))))))) (pg_name (i := 4) nd rfl (.inl rfl)) (pss_one (ps_if (pt_not (pt_val (pe_callGd GO (hr.mono (by decide)) hG rfl mO kO bO .nil pass0 (pa_cons (pe_callGd GC (hr.mono (by decide)) hG rfl mC kC bC .nil pass0 (pa_cons (l_lst view0 (l_cons view0 l_str l_nil)) (pa_cons (l_lst view0 (l_cons view0 l_str l_nil)) (pa_cons (pv 4) (pa_cons pe_non pa_nil))))) (pa_cons pe_int (pa_cons (pv 4) pa_nil)))))) (pss_one (ps_ret pe_bl)) pss_nil)))
    (pss_cons (ps_for (passes_of rfl) rfl (pi_list (l_lst view0 (l_cons view0 l_non (l_cons view0 l_int (l_cons view0 (l_tup view0 (l_cons view0 (l_tup view0 (l_cons view0 l_str (l_cons view0 l_str (l_cons view0 l_int l_nil)))) l_nil)) (l_cons view0 l_str (l_cons view0 (l_dct view0) l_nil))))))) (pg_name (i := 4) nd rfl (.inl rfl)) (pss_one (ps_if (pt_not (pt_val (pe_callGd GO (hr.mono (by decide)) hG rfl mO kO bO .nil pass0 (pa_cons (pe_callGd GC (hr.mono (by decide)) hG rfl mC kC bC .nil pass0 (pa_cons (l_lst view0 (l_cons view0 l_str l_nil)) (pa_cons (l_lst view0 (l_cons view0 l_str l_nil)) (pa_cons (l_lst view0 (l_cons view0 l_int l_nil)) (pa_cons (pv 4) pa_nil))))) (pa_cons pe_int (pa_cons (pv 4) pa_nil)))))) (pss_one (ps_ret pe_bl)) pss_nil)))
    (pss_cons (ps_par (i := 5) (j := 6) rfl nd rfl rfl (by decide) rfl rfl (pa_cons (pe_listRg rfl (by rfl) mList (prg_1 (by rfl) mRange pe_int)) (pa_cons (pe_lst (pa_cons pe_non pa_nil)) pa_nil)) (by rfl))
    (pss_cons (ps_set (i := 7) nd rfl (.inl rfl) (pe_callGd GC (hr.mono (by decide)) hG rfl mC kC bC .nil pass0 (pa_cons (l_lst view0 l_nil) (pa_cons (l_lst view0 l_nil) (pa_cons (pv 5) (pa_cons (pe_ix (r := rIxL K) ix_list (pv 6) pe_int (fun _ _ => rfl)) pa_nil))))))
    (pss_cons (ps_if (PW.pt (pw_or (pt_not (pt_val (pe_callGd GO (hr.mono (by decide)) hG rfl mO kO bO .nil pass0 (pa_cons (pv 7) (pa_cons pe_int (pa_cons pe_non pa_nil)))))) (pw_or1 (pt_not (pt_val (pe_callGd0 GT (hr.mono (by decide)) hG rfl mT kT bT .nil pass0)))))) (pss_one (ps_ret pe_bl)) pss_nil)
    (pss_one (ps_ret (pe_and (pe_callGd GO (hr.mono (by decide)) hG rfl mO kO bO .nil pass0 (pa_cons (pe_callGd GC (hr.mono (by decide)) hG rfl mC kC bC .nil pass0 (pa_cons (l_lst view0 l_nil) (pa_cons (l_lst view0 l_nil) (pa_cons (pe_op op_cat (pv 5) (pe_slice (r := rSlL K) sl_list (pv 5) po_none (po_some pe_int))) (pa_cons (l_lst view0 (l_cons view0 l_non l_nil)) pa_nil))))) (pa_cons pe_int (pa_cons pe_int pa_nil)))) (pe_one (pe_cmpR (op_eqD hr.units) (pe_callS (E := WE fun _ _ _ _ => False) GA (hr.mono (by decide)) rfl mA kA bA (fun σ => passAt takes0 σ) (pa_cons (l_lst view0 l_nil) (pa_cons (l_lst view0 l_nil) (pa_cons (pe_op op_rep (pe_slice (r := rSlL K) sl_list (pv 5) po_none (po_some pe_int)) pe_int) (pa_cons (l_lst view0 l_nil) pa_nil))))) (pe_tup (pa_cons pe_str (pa_cons (l_lst view0 l_nil) (pa_cons (l_lst view0 l_nil) (pa_cons (pe_slice (r := rSlL K) sl_list (pv 5) po_none (po_some pe_int)) (pa_cons (l_lst view0 l_nil) pa_nil)))))) (nomark _)))))))))))))), ?_⟩
  have idH : Same H H := fun _ _ h => h
  refine ⟨2, rfl, by decide, by decide, for_range (lo := 0) (n := (2 : Int).toNat) (fun i σ J => ∃ y1 y2 y3 : Option V, σ = [some (.ref a), y1, y2, y3, none, none, none, none] ∧ Same H J)
    ⟨none, none, none, rfl, idH⟩ (fun i σ J hi hP => ?_) fun σ J hP => ?_⟩
  · obtain ⟨y1, y2, y3, rfl, sJ⟩ := hP
    have hi : i < 2 := hi
    refine ⟨_, rfl, _, rfl, a, ns, i, by show [V.ref a, V.int (0 + (i : Int))] = _; rw [Int.zero_add], by omega, L2.Same.seq sJ L, fun g J1 s1 n1 gen1 => ?_⟩
    refine ⟨_, rfl, g, 12, _, rfl, by decide, gen1, by omega, fun v S J2 D k2 A2 A2' gen2 => ?_⟩
    refine gif_both (fun J' => Keep g J2 J' ∧ Gen J' g (1000 * (i : Int) + 30000 + 2000)) (fun J' => Keep g J2 J') (fun R hR => ?_) (fun J3 p3 R hR => ?_) fun J4 p4 => ?_
    · refine ⟨.ref g, rfl, v, rfl, ?_⟩
      refine nil_read ?_
      show spRight [.ref g, v] J2 _ _
      exact ⟨g, v, S, _, rfl, D, A2', gen2, by omega, fun H' kp gn => hR _ ⟨kp, gn⟩⟩
    · refine ⟨.ref g, rfl, v, rfl, ?_⟩
      refine nil_read ?_
      show spFactRef [.ref g, v] J3 _ _
      exact ⟨g, v, S, _, rfl, D, stoAt_same (keep_del p3.1) A2', p3.2, by omega, fun H' kp => hR _ (p3.1.trans kp)⟩
    · exact ⟨_, _, _, rfl, fun b o e => p4 b o (ne_of_none (sJ _ _ e) n1) (k2 b o (ne_of_none (sJ _ _ e) n1) (s1 _ _ (sJ _ _ e)))⟩
  obtain ⟨y1, y2, y3, rfl, sJ⟩ := hP
  clear sJ
  -- marks
  refine ⟨trivial, fun bv J1 m1 lb => ?_⟩
  have lb : Lit J1 (.list badM) bv := lb
  obtain ⟨ba, bx, rfl, hba, lbx⟩ := lit_texts lb
  refine ⟨ba, rfl, ⟨_, SqL.of hba⟩, for_list (K := K) (a := ba) (xs := bx) (fun i σ J => ∃ y4 : Option V, σ = [some (.ref a), y1, y2, y3, y4, none, none, none] ∧ Same J1 J)
    ⟨none, rfl, fun _ _ h => h⟩ (fun i σ J _ hP => ?_) (fun i x σ J hx hP => ?_) fun σ J2 hP => ?_⟩
  · obtain ⟨_, rfl, sJ⟩ := hP
    exact SqL.of (sJ _ _ hba)
  · obtain ⟨y4, rfl, sJ⟩ := hP
    obtain ⟨d, hd, ld⟩ := litAll_get lbx hx
    have ld := lit_same sJ _ _ ld
    obtain ⟨⟨o1, o2, o3⟩, ⟨o4, o5, o6⟩, o7⟩ := badM_end d (List.mem_of_getElem? hd)
    refine if_both (fun J' => Same J J') (fun J' => Same J J') (fun R hR => ?_) (fun J3 p3 R hR => ?_) fun J4 p4 => ⟨_, rfl, sJ.trans p4⟩
    · refine ⟨x, rfl, ?_⟩
      show tCons _ _ _ _ _
      refine c_read ?_
      show tCons _ _ _ _ _
      refine c_read ?_
      show tCons _ _ _ _ _
      refine c_read ?_
      refine nil_read ?_
      show spCaught K CL CT CF [x, .non, .non, .non] J _ _
      refine caught_lit (dm := d) (dc := .none) (di := .none) (df := .none) (k := 0) (d := d) dist ld (by simp only [Lit]) (by simp only [Lit]) (by simp only [Lit]) o2 o3 o1 fun tv K4 n4 told => ?_
      show tCons _ _ _ _ _
      refine c_read ?_
      refine ⟨x, rfl, ?_⟩
      refine nil_read ?_
      show spOnly K [tv, .int ((0 : Nat) : Int), x] K4 _ _
      exact only_told told (lit_dpL (lit_same n4 _ _ ld)) ((tiny o7).shows (by decide) (by decide)) fun K6 n6 => hR _ (n4.trans n6)
    · refine ⟨x, rfl, trivial, fun v1 K1 n1 l1 => ⟨trivial, fun v2 K2 n2 l2 => ⟨trivial, fun v3 K3 n3 l3 => ?_⟩⟩⟩
      have n13 := (n1.trans n2).trans n3
      refine nil_read ?_
      show spCaught K CL CT CF [x, v1, v2, v3] K3 _ _
      refine caught_lit (dm := d) (dc := .list []) (di := .list []) (df := .list []) (k := 0) (d := d) dist (lit_same (p3.trans n13) _ _ ld) (lit_same (n2.trans n3) _ _ l1) (lit_same n3 _ _ l2) l3 o5 o6 o4 fun tv K4 n4 told => ?_
      show tCons _ _ _ _ _
      refine c_read ?_
      refine ⟨x, rfl, ?_⟩
      refine nil_read ?_
      show spOnly K [tv, .int ((0 : Nat) : Int), x] K4 _ _
      exact only_told told (lit_dpL (lit_same ((p3.trans n13).trans n4) _ _ ld)) ((tiny o7).shows (by decide) (by decide)) fun K6 n6 => hR _ (((p3.trans n13).trans n4).trans n6)
  obtain ⟨y4, rfl, sJ⟩ := hP
  clear sJ
  -- columns
  refine ⟨trivial, fun bv J3 m3 lb => ?_⟩
  have lb : Lit J3 (.list badC) bv := lb
  obtain ⟨ba, bx, rfl, hba, lbx⟩ := lit_texts lb
  refine ⟨ba, rfl, ⟨_, SqL.of hba⟩, for_list (K := K) (a := ba) (xs := bx) (fun i σ J => ∃ y4 : Option V, σ = [some (.ref a), y1, y2, y3, y4, none, none, none] ∧ Same J3 J)
    ⟨_, rfl, fun _ _ h => h⟩ (fun i σ J _ hP => ?_) (fun i x σ J hx hP => ?_) fun σ J4 hP => ?_⟩
  · obtain ⟨_, rfl, sJ⟩ := hP
    exact SqL.of (sJ _ _ hba)
  · obtain ⟨y4, rfl, sJ⟩ := hP
    obtain ⟨d, hd, ld⟩ := litAll_get lbx hx
    have ld := lit_same sJ _ _ ld
    obtain ⟨⟨o1, o2, o3⟩, o7⟩ := badC_end d (List.mem_of_getElem? hd)
    refine if_only (fun R hR => ?_) fun J5 p5 => ⟨_, rfl, sJ.trans p5⟩
    refine ⟨trivial, fun v1 K1 n1 l1 => ⟨x, rfl, ?_⟩⟩
    show tCons _ _ _ _ _
    refine c_read ?_
    show tCons _ _ _ _ _
    refine c_read ?_
    refine nil_read ?_
    show spCaught K CL CT CF [v1, x, .non, .non] K1 _ _
    refine caught_lit (dm := .list [.str "red"]) (dc := d) (di := .none) (df := .none) (k := 0) (d := d) dist l1 (lit_same n1 _ _ ld) (by simp only [Lit]) (by simp only [Lit]) o2 o3 o1 fun tv K4 n4 told => ?_
    show tCons _ _ _ _ _
    refine c_read ?_
    refine ⟨x, rfl, ?_⟩
    refine nil_read ?_
    show spOnly K [tv, .int ((0 : Nat) : Int), x] K4 _ _
    exact only_told told (lit_dpL (lit_same (n1.trans n4) _ _ ld)) ((tiny o7).shows (by decide) (by decide)) fun K6 n6 => hR _ ((n1.trans n4).trans n6)
  obtain ⟨y4, rfl, sJ⟩ := hP
  clear sJ
  -- items
  refine ⟨trivial, fun bv J5 m5 lb => ?_⟩
  have lb : Lit J5 (.list badI) bv := lb
  obtain ⟨ba, bx, rfl, hba, lbx⟩ := lit_texts lb
  refine ⟨ba, rfl, ⟨_, SqL.of hba⟩, for_list (K := K) (a := ba) (xs := bx) (fun i σ J => ∃ y4 : Option V, σ = [some (.ref a), y1, y2, y3, y4, none, none, none] ∧ Same J5 J)
    ⟨_, rfl, fun _ _ h => h⟩ (fun i σ J _ hP => ?_) (fun i x σ J hx hP => ?_) fun σ J6 hP => ?_⟩
  · obtain ⟨_, rfl, sJ⟩ := hP
    exact SqL.of (sJ _ _ hba)
  · obtain ⟨y4, rfl, sJ⟩ := hP
    obtain ⟨d, hd, ld⟩ := litAll_get lbx hx
    have ld := lit_same sJ _ _ ld
    obtain ⟨⟨o1, o2, o3⟩, o7⟩ := badI_end d (List.mem_of_getElem? hd)
    refine if_only (fun R hR => ?_) fun J7 p5 => ⟨_, rfl, sJ.trans p5⟩
    refine ⟨trivial, fun v1 K1 n1 l1 => ⟨trivial, fun v2 K2 n2 l2 => ⟨x, rfl, ?_⟩⟩⟩
    show tCons _ _ _ _ _
    refine c_read ?_
    refine nil_read ?_
    show spCaught K CL CT CF [v1, v2, x, .non] K2 _ _
    refine caught_lit (dm := .list [.str "red"]) (dc := .list [.str "next"]) (di := d) (df := .none) (k := 0) (d := d) dist (lit_same n2 _ _ l1) l2 (lit_same (n1.trans n2) _ _ ld) (by simp only [Lit]) o2 o3 o1 fun tv K4 n4 told => ?_
    show tCons _ _ _ _ _
    refine c_read ?_
    refine ⟨x, rfl, ?_⟩
    refine nil_read ?_
    show spOnly K [tv, .int ((0 : Nat) : Int), x] K4 _ _
    exact only_told told (lit_dpL (lit_same ((n1.trans n2).trans n4) _ _ ld)) ((tiny o7).shows (by decide) (by decide)) fun K6 n6 => hR _ (((n1.trans n2).trans n4).trans n6)
  obtain ⟨y4, rfl, sJ⟩ := hP
  clear sJ
  -- facts
  refine ⟨trivial, fun bv J7 m7 lb => ?_⟩
  have lb : Lit J7 (.list badF) bv := lb
  obtain ⟨ba, bx, rfl, hba, lbx⟩ := lit_texts lb
  refine ⟨ba, rfl, ⟨_, SqL.of hba⟩, for_list (K := K) (a := ba) (xs := bx) (fun i σ J => ∃ y4 : Option V, σ = [some (.ref a), y1, y2, y3, y4, none, none, none] ∧ Same J7 J)
    ⟨_, rfl, fun _ _ h => h⟩ (fun i σ J _ hP => ?_) (fun i x σ J hx hP => ?_) fun σ J8 hP => ?_⟩
  · obtain ⟨_, rfl, sJ⟩ := hP
    exact SqL.of (sJ _ _ hba)
  · obtain ⟨y4, rfl, sJ⟩ := hP
    obtain ⟨d, hd, ld⟩ := litAll_get lbx hx
    have ld := lit_same sJ _ _ ld
    obtain ⟨⟨o1, o2, o3⟩, o7⟩ := badF_end d (List.mem_of_getElem? hd)
    refine if_only (fun R hR => ?_) fun J9 p5 => ⟨_, rfl, sJ.trans p5⟩
    refine ⟨trivial, fun v1 K1 n1 l1 => ⟨trivial, fun v2 K2 n2 l2 => ⟨trivial, fun v3 K3 n3 l3 => ⟨x, rfl, ?_⟩⟩⟩⟩
    refine nil_read ?_
    show spCaught K CL CT CF [v1, v2, v3, x] K3 _ _
    have n13 := (n1.trans n2).trans n3
    refine caught_lit (dm := .list [.str "red"]) (dc := .list [.str "next"]) (di := .list [.int 1]) (df := d) (k := 0) (d := d) dist (lit_same (n2.trans n3) _ _ l1) (lit_same n3 _ _ l2) l3 (lit_same n13 _ _ ld) o2 o3 o1 fun tv K4 n4 told => ?_
    show tCons _ _ _ _ _
    refine c_read ?_
    refine ⟨x, rfl, ?_⟩
    refine nil_read ?_
    show spOnly K [tv, .int ((0 : Nat) : Int), x] K4 _ _
    exact only_told told (lit_dpL (lit_same (n13.trans n4) _ _ ld)) ((tiny o7).shows (by decide) (by decide)) fun K6 n6 => hR _ ((n13.trans n4).trans n6)
  obtain ⟨y4, rfl, sJ⟩ := hP
  clear sJ
  -- many items
  have emptyD : Fits (.list []) ∧ Lays (.list []) := fits_words (by decide +kernel)
  have word0 : wordsD 4 (.list []) = true := by decide +kernel
  have col0 : columnsD (texts (listD (.list []))) (.list []) = true := by decide +kernel
  have shp0 : SeqAt.shaped (.list []) = true := by decide +kernel
  refine ⟨2001, rfl, RgOk.of_le (by decide) (by decide) (by decide) (by decide), fun pm npm => ⟨by show 1 ≤ sizeLine; decide, fun pt npt => ⟨_, _, rfl, ?_⟩⟩⟩
  have em : L2.upd (L2.upd J8 pm (.lst (rgV 0 2001))) pt (.lst [V.non]) pm = some (.lst ((rng 2001).map V.int)) := same_new npt pm _ (by rw [upd_same, ← rgV_rng 2001]; rfl)
  have et : L2.upd (L2.upd J8 pm (.lst (rgV 0 2001))) pt (.lst [V.non]) pt = some (.lst [V.non]) := upd_same
  generalize L2.upd (L2.upd J8 pm (.lst (rgV 0 2001))) pt (.lst [V.non]) = J9 at em et ⊢
  have dNon : ∀ {J : Hp}, Dp K J .non .none := lit_dpL (by simp only [Lit])
  refine ⟨trivial, fun v1 K1 n1 l1 => ⟨trivial, fun v2 K2 n2 l2 => ⟨.ref pm, rfl, .ref pt, rfl, pt, [V.non], 0, .non, rfl, rfl, SqL.of ((n1.trans n2) _ _ et), atI_nat (j := 0) rfl, ?_⟩⟩⟩
  refine nil_read ?_
  have n12 := n1.trans n2
  have d1 := lit_dpL (K := K) (lit_same n2 _ _ l1)
  have d2 := lit_dpL (K := K) l2
  have dm : Dp K K2 (.ref pm) (.list ((rng 2001).map PyData.int)) := .lst (SqL.of (n12 _ _ em)) (dp_intsL _)
  have r1 : ∀ x ∈ rng 2001, 0 ≤ x ∧ x ≤ 1000000000 := fun x h => by have := mem_rng.mp h; omega
  show spCaught K CL CT CF [v1, v2, .ref pm, .non] K2 _ _
  refine caught_told (C := CL) (k := 0) (bad := .non) (d := .none) dist d1 d2 dm dNon (big_shows r1 (by rw [rng_len]; decide) (sm_none.mono (by decide) (by decide))) rfl (ends_facts d1 emptyD word0 d2 emptyD col0 dm (ints_fit (by rw [rng_len]; decide)) (nums_all r1) dNon (by decide +kernel)) dNon fun tv K4 n4 told => ?_
  have n04 := n12.trans n4
  clear d1 d2 dm l1 l2
  refine seq_both2 (fun J' => Same K4 J') (fun J' => Same K4 J') (fun R hR => ?_) (fun J' p' R hR => ?_) fun J10 p10 => ?_
  · refine ⟨tv, rfl, ?_⟩
    show tCons _ _ _ _ _
    refine c_read ?_
    show tCons _ _ _ _ _
    refine c_read ?_
    refine nil_read ?_
    show spOnly K [tv, .int ((0 : Nat) : Int), .non] K4 _ _
    exact only_told told dNon ((tiny (by decide +kernel)).shows (by decide) (by decide)) hR
  · refine nil_read ?_
    show spSame [] J' _ _
    exact ⟨rfl, fun H' s' => hR _ (p'.trans s')⟩
  have em := (n04.trans p10) _ _ em
  clear told n04 n4 n12 n1 n2 et p10
  refine ⟨trivial, fun v1 K1 n1 l1 => ⟨trivial, fun v2 K2 n2 l2 => ?_⟩⟩
  have em2 := (n1.trans n2) _ _ em
  have cut5 : cutV ((rng 2001).map V.int) none (some 5) = (rng 5).map V.int := by
    rw [cut_take (by decide), ← List.map_take]
    exact congrArg _ (rng_take (n := 2001) (m := 5) (by decide))
  refine ⟨.ref pm, rfl, .ref pm, rfl, 5, rfl, pm, _, rfl, SqL.of em2, fun ps nps => ?_⟩
  rw [cut5]
  have w1 := same_new nps (o := .lst ((rng 5).map V.int))
  refine ⟨pm, ps, _, _, rfl, rfl, w1 _ _ em2, upd_same, by rw [List.length_map, List.length_map, rng_len, rng_len]; decide, fun pc npc => ?_⟩
  rw [← List.map_append]
  have w2 := same_new npc (o := .lst ((rng 2001 ++ rng 5).map V.int))
  have ec : L2.upd (L2.upd K2 ps (.lst ((rng 5).map V.int))) pc (.lst ((rng 2001 ++ rng 5).map V.int)) pc = some (.lst ((rng 2001 ++ rng 5).map V.int)) := upd_same
  generalize L2.upd (L2.upd K2 ps (.lst ((rng 5).map V.int))) pc (.lst ((rng 2001 ++ rng 5).map V.int)) = K3 at w2 ec ⊢
  refine ⟨trivial, fun v4 K4 n4 l4 => ?_⟩
  refine nil_read ?_
  show spCaught K CL CT CF [v1, v2, .ref pc, v4] K4 _ _
  have n24 := (w1.trans w2).trans n4
  obtain ⟨a1, rfl, h1⟩ := lit_nil l1
  obtain ⟨a2, rfl, h2⟩ := lit_nil l2
  have l4 : Lit K4 (.list [.none]) v4 := l4
  obtain ⟨a4, x4, rfl, h4, lx4⟩ := lit_texts l4
  have ex4 : x4 = [V.non] := by
    simp only [LitAll, Lit] at lx4
    obtain ⟨_, _, e, rfl, rfl⟩ := lx4
    exact e
  subst ex4
  have h1 := (n2.trans n24) _ _ h1
  have h2 := n24 _ _ h2
  have ec := n4 _ _ ec
  have r2 : ∀ x ∈ rng 2001 ++ rng 5, 0 ≤ x ∧ x ≤ 1000000000 := fun x h => by
    rcases List.mem_append.mp h with h | h
    · exact r1 x h
    · have := mem_rng.mp h; omega
  have len2 : (rng 2001 ++ rng 5).length ≤ 2100 := by rw [List.length_append, rng_len, rng_len]; decide
  have once2 : (onces (rng 2001 ++ rng 5)).length = 2001 := by
    rw [(onces_rng (n := 2001) fun i => ?_).length_eq, rng_len]
    rw [List.mem_append, mem_rng, mem_rng]
    omega
  have non4 : DpAll K K4 [V.non] [.none] := .cons dNon .nil
  have dl1 : Dp K K4 (.ref a1) (.list []) := .lst (SqL.of h1) .nil
  have dl2 : Dp K K4 (.ref a2) (.list []) := .lst (SqL.of h2) .nil
  have dl4 : Dp K K4 (.ref a4) (.list [.none]) := .lst (SqL.of h4) non4
  have dc : Dp K K4 (.ref pc) (.list ((rng 2001 ++ rng 5).map PyData.int)) := .lst (SqL.of ec) (dp_intsL _)
  have sn : Sm 1 140000 (.list [.none]) := ((smAll (k := 0) (n := 64) (ds := [.none]) fun d hd => by rw [List.mem_singleton.mp hd]; exact sm_none.mono (by decide) (by decide)).list (m := 1) (Nat.le_refl _)).mono (by decide) (by decide)
  refine caught_told (C := CT) (k := 1) (bad := .int ((2001 : Nat) : Int)) (d := .int ((2001 : Nat) : Int)) dist dl1 dl2 dc dl4 (big_shows r2 len2 sn) rfl (ends_made (ms := []) (cs := []) h1 h2 ec h4 non4 emptyD word0 shp0 emptyD col0 shp0 (by omega) (nums_all r2) (by decide) (fun d hd => ?_) (by decide) (by decide) fun H3 Q' E' s' t' => .many (by rw [once2]; decide) (by rw [once2]; exact t')) (.int _) fun tv2 K5 n5 told => ?_
  · rw [List.mem_singleton.mp hd]
    exact fun ds e => by cases e
  show tCons _ _ _ _ _
  refine c_read ?_
  show tCons _ _ _ _ _
  refine c_read ?_
  refine nil_read ?_
  show spOnly K [tv2, .int ((1 : Nat) : Int), .int ((2001 : Nat) : Int)] K5 _ _
  refine only_told told (.int _) ((tiny (by decide +kernel)).shows (by decide) (by decide)) fun J12 p12 => ⟨true, rfl, iteT' rfl ?_⟩
  have em := (((n1.trans n2).trans n24).trans n5).trans p12 _ _ em
  clear dl1 dl2 dl4 dc h1 h2 h4 ec told n5 p12 n24 n4 w1 w2 n1 n2 l1 l2 l4 lx4 em2 npc nps
  -- two thousand are allowed
  have cut2 : cutV ((rng 2001).map V.int) none (some 2000) = (rng 2000).map V.int := by
    rw [cut_take (by decide), ← List.map_take]
    exact congrArg _ (rng_take (n := 2001) (m := 2000) (by decide))
  refine ⟨trivial, fun v1 K1 n1 l1 => ⟨trivial, fun v2 K2 n2 l2 => ?_⟩⟩
  have em2 := (n1.trans n2) _ _ em
  refine ⟨.ref pm, rfl, 2000, rfl, pm, _, rfl, SqL.of em2, fun ps2 nps2 => ?_⟩
  rw [cut2]
  have w1 := same_new nps2 (o := .lst ((rng 2000).map V.int))
  refine ⟨ps2, 2, _, rfl, rfl, upd_same, by decide, by decide, by rw [List.length_map, rng_len]; decide, fun pc2 npc2 => ?_⟩
  rw [show (List.replicate (2 : Int).toNat ((rng 2000).map V.int)).flatten = (rng 2000 ++ rng 2000).map V.int by show (rng 2000).map V.int ++ ((rng 2000).map V.int ++ []) = _; rw [List.append_nil, List.map_append]]
  have w2 := same_new npc2 (o := .lst ((rng 2000 ++ rng 2000).map V.int))
  have ec : L2.upd (L2.upd K2 ps2 (.lst ((rng 2000).map V.int))) pc2 (.lst ((rng 2000 ++ rng 2000).map V.int)) pc2 = some (.lst ((rng 2000 ++ rng 2000).map V.int)) := upd_same
  generalize L2.upd (L2.upd K2 ps2 (.lst ((rng 2000).map V.int))) pc2 (.lst ((rng 2000 ++ rng 2000).map V.int)) = K3 at w2 ec ⊢
  refine ⟨trivial, fun v4 K4 n4 l4 => ?_⟩
  refine nil_read ?_
  show spMake K CL CT CF [v1, v2, .ref pc2, v4] K4 _ _
  have n24 := (w1.trans w2).trans n4
  obtain ⟨a1, rfl, h1⟩ := lit_nil l1
  obtain ⟨a2, rfl, h2⟩ := lit_nil l2
  obtain ⟨a4, rfl, h4⟩ := lit_nil l4
  have h1 := (n2.trans n24) _ _ h1
  have h2 := n24 _ _ h2
  have ec := n4 _ _ ec
  have r3 : ∀ x ∈ rng 2000 ++ rng 2000, 0 ≤ x ∧ x ≤ 1000000000 := fun x h => by
    rcases List.mem_append.mp h with h | h <;> (have := mem_rng.mp h; omega)
  have len3 : (rng 2000 ++ rng 2000).length = 4000 := by rw [List.length_append, rng_len]
  have iff3 : ∀ i, i ∈ rng 2000 ++ rng 2000 ↔ i ∈ rng 2000 := fun i => by rw [List.mem_append, or_self]
  have once3 : (onces (rng 2000 ++ rng 2000)).length = 2000 := by rw [(onces_rng (n := 2000) iff3).length_eq, rng_len]
  have em4 := (n2.trans n24) _ _ (n1 _ _ em)
  refine ⟨_, _, _, _, .list [], .list [], .list ((rng 2000 ++ rng 2000).map PyData.int), .list [], rfl, signs_good (.lst (SqL.of h1) .nil) emptyD word0 (.lst (SqL.of h2) .nil) emptyD col0 fun H1 s1 => rest_good (.lst (SqL.of (s1 _ _ ec)) (dp_intsL _)) (ints_fit (by rw [len3]; decide)) (nums_all r3) (.lst (SqL.of (s1 _ _ h4)) .nil) (list_is _) fun H2 s2 => ?_⟩
  have s12 := s1.trans s2
  refine ⟨a1, a2, pc2, a4, [], [], rng 2000 ++ rng 2000, [], [], rfl, rfl, rfl, rfl, SqL.of (s12 _ _ h1), SqL.of (s12 _ _ h2), shp0, shp0, SqL.of (s12 _ _ ec), by rw [len3]; decide, SqL.of (s12 _ _ h4), .nil, by decide, (fun d hd => by cases hd), by decide, by decide, ?_⟩
  refine .made (by rw [once3]; decide) (fun d hd => by cases hd) [] rfl .nil (fun x hx => by cases hx) (fun x hx => by cases hx) [] (fun x hx => hx) (by decide) fun gs v H' _ hgs s3 N => ?_
  have eg : gs = [] := List.eq_nil_iff_forall_not_mem.mpr fun x hx => List.not_mem_nil ((hgs x).mp hx)
  subst eg
  rw [sort_rng (n := 2000) iff3, show sortF [] = [] from List.length_eq_zero_iff.mp (sortF_perm []).length_eq] at N
  have A := N.at
  have em5 := (s12.trans s3) _ _ em4
  show tTup _ _ _ _
  refine ⟨trivial, fun u1 L1 m1 q1 => ⟨trivial, fun u2 L2' m2 q2 => ⟨.ref pm, rfl, 2000, rfl, pm, _, rfl, SqL.of ((m1.trans m2) _ _ em5), fun p3 np3 => ?_⟩⟩⟩
  rw [cut2]
  have m3 := same_new np3 (o := .lst ((rng 2000).map V.int))
  have e3 : L2.upd L2' p3 (.lst ((rng 2000).map V.int)) p3 = some (.lst ((rng 2000).map V.int)) := upd_same
  generalize L2.upd L2' p3 (.lst ((rng 2000).map V.int)) = L3 at m3 e3 ⊢
  refine ⟨trivial, fun u4 L4 m4 q4 => ⟨by show 5 ≤ sizeLine; decide, fun p5 np5 => ?_⟩⟩
  have m5 := same_new np5 (o := .tup [.str "store", u1, u2, .ref p3, u4])
  have mm := ((m1.trans m2).trans m3).trans (m4.trans m5)
  obtain ⟨b1, rfl, g1⟩ := lit_nil q1
  obtain ⟨b2, rfl, g2⟩ := lit_nil q2
  obtain ⟨b4, rfl, g4⟩ := lit_nil q4
  have tail5 := m4.trans m5
  have B : StoAt (L2.upd L4 p5 (.tup [.str "store", .ref b1, .ref b2, .ref p3, .ref b4])) (.ref p5) ⟨[], [], rng 2000, []⟩ := ⟨p5, b1, b2, p3, b4, [], rfl, upd_same, (m2.trans (m3.trans tail5)) _ _ g1, (m3.trans tail5) _ _ g2, tail5 _ _ e3, m5 _ _ g4, .nil⟩
  refine ⟨_, _, store_dp (stoAt_same mm A), store_dp B, big_sm.shaped (by decide), big_sm.shaped (by decide), ?_⟩
  rw [big_sm.eqv (by decide)]
  exact q _
end
end DQ

set_option Elab.async false
set_option linter.all false
set_option maxRecDepth 100000
set_option maxHeartbeats 4000000
namespace DQ
open PySem PySem.Spec PyProof.Rows L2
/-! what is asked of the classes of the errors, list by list -/
def kitA (K : PySem.W.Frag) (l : List Addr) : Bool := l.all fun x => l.all fun y => PySem.W.kitOne K (.ref x) (.ref y) == some (decide (x = y))
def exmA (K : PySem.W.Frag) (l : List Addr) (S : Addr) : Bool := l.all fun x => PySem.W.exmOne K (.ref x) (.ref S) == some true
def apartA : List Addr → Bool
  | [] => true
  | x :: r => (r.all fun y => !decide (x = y)) && apartA r
theorem kitA_of {K : PySem.W.Frag} {l : List Addr} (h : kitA K l = true) : ∀ C ∈ l, ∀ D ∈ l, PySem.W.kitOne K (.ref C) (.ref D) = some (decide (C = D)) := fun C hC D hD => beq_iff_eq.mp (List.all_eq_true.mp (List.all_eq_true.mp h C hC) D hD)
theorem exmA_of {K : PySem.W.Frag} {l : List Addr} {S : Addr} (h : exmA K l S = true) : ∀ C ∈ l, PySem.W.exmOne K (.ref C) (.ref S) = some true := fun C hC => beq_iff_eq.mp (List.all_eq_true.mp h C hC)
theorem apartA_of : ∀ {l : List Addr}, apartA l = true → l.Nodup
  | [], _ => List.nodup_nil
  | x :: r, h => by
    have h : ((r.all fun y => !decide (x = y)) && apartA r) = true := h
    rw [Bool.and_eq_true] at h
    refine List.nodup_cons.mpr ⟨fun m => ?_, apartA_of h.2⟩
    have z := List.all_eq_true.mp h.1 x m
    simp at z
end DQ

set_option Elab.async false
set_option linter.all false
set_option maxRecDepth 100000
set_option maxHeartbeats 4000000
namespace DQ
open PySem PySem.Spec PyProof.Rows L2
theorem all_of {P : Program} {w : World} {K : PySem.W.Frag} {mg : Str → Option Value} {fa C0 C1 C2 f0 f1 f2 f3 f4 f5 f6 f7 f8 f9 f10 f11 f12 f13 f14 f15 f16 f17 f18 f19 f20 f21 f22 f23 f24 f25 f26 f27 S : Addr} (hfa : mg "law" = some (.ref fa))
    (E0 : ErrAt K mg "InvalidFact" "InvalidFact.__init__" (sInit 2) C0)
    (E1 : ErrAt K mg "InvalidList" "InvalidList.__init__" (sInit 3) C1)
    (E2 : ErrAt K mg "TooMany" "TooMany.__init__" (sInit 4) C2)
    (x0 : mg "StoreError" = some (.ref S))
    (x1 : exmA K [C1, C2, C0] S = true)
    (x2 : kitA K [C1, C2, C0] = true)
    (x3 : apartA [C1, C2, C0] = true)
    (c0 : ∃ t, mg "LETTERS" = some (.str letters t))
    (c1 : ∃ t, mg "WORD_SIGNS" = some (.str wordSigns t))
    (c2 : ∃ t, mg "MOST_SIGNS" = some (.int 30 t))
    (c3 : ∃ r, mg "RESERVED" = some (.ref r) ∧ ∀ H, SqT K H r (reserved.map V.str))
    (c4 : ∃ t, mg "MOST_MARKS" = some (.int 4 t))
    (c5 : ∃ t, mg "MOST_COLUMNS" = some (.int 2 t))
    (c6 : ∃ t, mg "MOST_ITEMS" = some (.int 2000 t))
    (c7 : ∃ t, mg "MOST_NUMBER" = some (.int 1000000000 t))
    (D0 : ∃ fd, DefAt K mg "is_word" sIsWord f0 fd)
    (D1 : ∃ fd, DefAt K mg "is_spelled" sSpelled f1 fd)
    (D2 : ∃ fd, DefAt K mg "is_whole" sWhole f2 fd)
    (D3 : ∃ fd, DefAt K mg "is_between" sBetween f3 fd)
    (D4 : ∃ fd, DefAt K mg "is_number" sNumber f4 fd)
    (D5 : ∃ fd, DefAt K mg "are_words" sWords f5 fd)
    (D6 : ∃ fd, DefAt K mg "are_marks" sMarks f6 fd)
    (D7 : ∃ fd, DefAt K mg "are_columns" sColumns f7 fd)
    (D8 : ∃ fd, DefAt K mg "are_numbers" sNumbers f8 fd)
    (D9 : ∃ fd, DefAt K mg "is_fact" sIsFact f9 fd)
    (D10 : ∃ fd, DefAt K mg "first_clash" sClash f10 fd)
    (D11 : ∃ fd, DefAt K mg "check_signs" sSigns f11 fd)
    (D12 : ∃ fd, DefAt K mg "check_lists" sLists f12 fd)
    (D13 : ∃ fd, DefAt K mg "store_of" sMake f13 fd)
    (D14 : ∃ fd, DefAt K mg "_law_hash" sHash f14 fd)
    (D15 : ∃ fd, DefAt K mg "_law_random" sRandom f15 fd)
    (D16 : ∃ fd, DefAt K mg "_law_cell" sCell f16 fd)
    (D17 : ∃ fd, DefAt K mg "_law_generator" sGenerator f17 fd)
    (D18 : ∃ fd, DefAt K mg "_law_drawn_order" sOrder f18 fd)
    (D19 : ∃ fd, DefAt K mg "_law_drawn_pairs" sPairs f19 fd)
    (D20 : ∃ fd, DefAt K mg "_law_drawn_items" sItems f20 fd)
    (D21 : ∃ fd, DefAt K mg "_law_drawn_store" sStore f21 fd)
    (D22 : ∃ fd, DefAt K mg "_law_caught" sCaught f22 fd)
    (D23 : ∃ fd, DefAt K mg "_law_only" sOnly f23 fd)
    (D24 : ∃ fd, DefAt K mg "_law_made_right" sRight f24 fd)
    (D25 : ∃ fd, DefAt K mg "_law_fact_refused" sFactRef f25 fd)
    (D26 : ∃ fd, DefAt K mg "_law_same_thing" sSame f26 fd)
    (D27 : ∃ fd, DefAt K mg "law" sLaw f27 fd)
    (z0 : mg "isinstance" = none)
    (z1 : mg "str" = none)
    (z2 : mg "len" = none)
    (z3 : mg "all" = none)
    (z4 : mg "int" = none)
    (z5 : mg "bool" = none)
    (z6 : mg "list" = none)
    (z7 : mg "set" = none)
    (z8 : mg "any" = none)
    (z9 : mg "tuple" = none)
    (z10 : mg "range" = none)
    (z11 : mg "sum" = none)
    (z12 : mg "max" = none)
    (z13 : mg "sorted" = none)
    (z14 : mg "repr" = none)
    : ∃ fd : FuncData, (∀ (s : Shared) (v : Value), BindsTo s fd ⟨[v], []⟩ [("script", v)]) ∧ ∀ base : Heap, FnG P w K mg base CX0 10 fa fd ["script"] (spLaw K) := by
  obtain ⟨t0, c0⟩ := c0
  obtain ⟨t1, c1⟩ := c1
  obtain ⟨t2, c2⟩ := c2
  obtain ⟨r3, c3, cc3⟩ := c3
  obtain ⟨t4, c4⟩ := c4
  obtain ⟨t5, c5⟩ := c5
  obtain ⟨t6, c6⟩ := c6
  obtain ⟨t7, c7⟩ := c7
  obtain ⟨d0, D0⟩ := D0
  obtain ⟨d1, D1⟩ := D1
  obtain ⟨d2, D2⟩ := D2
  obtain ⟨d3, D3⟩ := D3
  obtain ⟨d4, D4⟩ := D4
  obtain ⟨d5, D5⟩ := D5
  obtain ⟨d6, D6⟩ := D6
  obtain ⟨d7, D7⟩ := D7
  obtain ⟨d8, D8⟩ := D8
  obtain ⟨d9, D9⟩ := D9
  obtain ⟨d10, D10⟩ := D10
  obtain ⟨d11, D11⟩ := D11
  obtain ⟨d12, D12⟩ := D12
  obtain ⟨d13, D13⟩ := D13
  obtain ⟨d14, D14⟩ := D14
  obtain ⟨d15, D15⟩ := D15
  obtain ⟨d16, D16⟩ := D16
  obtain ⟨d17, D17⟩ := D17
  obtain ⟨d18, D18⟩ := D18
  obtain ⟨d19, D19⟩ := D19
  obtain ⟨d20, D20⟩ := D20
  obtain ⟨d21, D21⟩ := D21
  obtain ⟨d22, D22⟩ := D22
  obtain ⟨d23, D23⟩ := D23
  obtain ⟨d24, D24⟩ := D24
  obtain ⟨d25, D25⟩ := D25
  obtain ⟨d26, D26⟩ := D26
  obtain ⟨d27, D27⟩ := D27
  have e := hfa.symm.trans D27.g
  cases e
  have b0 := D0.F.binds (ps := ["value"]) fun _ _ _ _ _ _ us hl => match us, hl with | [_], _ => rfl
  have b1 := D1.F.binds (ps := ["text"]) fun _ _ _ _ _ _ us hl => match us, hl with | [_], _ => rfl
  have b2 := D2.F.binds (ps := ["value"]) fun _ _ _ _ _ _ us hl => match us, hl with | [_], _ => rfl
  have b3 := D3.F.binds (ps := ["value", "least", "most"]) fun _ _ _ _ _ _ us hl => match us, hl with | [_, _, _], _ => rfl
  have b4 := D4.F.binds (ps := ["value"]) fun _ _ _ _ _ _ us hl => match us, hl with | [_], _ => rfl
  have b5 := D5.F.binds (ps := ["value", "most"]) fun _ _ _ _ _ _ us hl => match us, hl with | [_, _], _ => rfl
  have b6 := D6.F.binds (ps := ["value"]) fun _ _ _ _ _ _ us hl => match us, hl with | [_], _ => rfl
  have b7 := D7.F.binds (ps := ["marks", "value"]) fun _ _ _ _ _ _ us hl => match us, hl with | [_, _], _ => rfl
  have b8 := D8.F.binds (ps := ["value"]) fun _ _ _ _ _ _ us hl => match us, hl with | [_], _ => rfl
  have b9 := D9.F.binds (ps := ["marks", "columns", "known", "value"]) fun _ _ _ _ _ _ us hl => match us, hl with | [_, _, _, _], _ => rfl
  have b10 := D10.F.binds (ps := ["facts"]) fun _ _ _ _ _ _ us hl => match us, hl with | [_], _ => rfl
  have b11 := D11.F.binds (ps := ["marks", "columns"]) fun _ _ _ _ _ _ us hl => match us, hl with | [_, _], _ => rfl
  have b12 := D12.F.binds (ps := ["marks", "columns", "items", "facts"]) fun _ _ _ _ _ _ us hl => match us, hl with | [_, _, _, _], _ => rfl
  have b13 := D13.F.binds (ps := ["marks", "columns", "items", "facts"]) fun _ _ _ _ _ _ us hl => match us, hl with | [_, _, _, _], _ => rfl
  have b14 := D14.F.binds (ps := ["seed", "index"]) fun _ _ _ _ _ _ us hl => match us, hl with | [_, _], _ => rfl
  have b15 := D15.F.binds (ps := ["generator", "bound"]) fun _ _ _ _ _ _ us hl => match us, hl with | [_, _], _ => rfl
  have b16 := D16.F.binds (ps := ["script", "index"]) fun _ _ _ _ _ _ us hl => match us, hl with | [_, _], _ => rfl
  have b17 := D17.F.binds (ps := ["script", "index"]) fun _ _ _ _ _ _ us hl => match us, hl with | [_, _], _ => rfl
  have b18 := D18.F.binds (ps := ["generator", "things"]) fun _ _ _ _ _ _ us hl => match us, hl with | [_, _], _ => rfl
  have b19 := D19.F.binds (ps := ["generator", "items"]) fun _ _ _ _ _ _ us hl => match us, hl with | [_, _], _ => rfl
  have b20 := D20.F.binds (ps := ["generator", "most"]) fun _ _ _ _ _ _ us hl => match us, hl with | [_, _], _ => rfl
  have b21 := D21.F.binds (ps := ["generator", "most"]) fun _ _ _ _ _ _ us hl => match us, hl with | [_, _], _ => rfl
  have b22 := D22.F.binds (ps := ["marks", "columns", "items", "facts"]) fun _ _ _ _ _ _ us hl => match us, hl with | [_, _, _, _], _ => rfl
  have b23 := D23.F.binds (ps := ["told", "place", "bad"]) fun _ _ _ _ _ _ us hl => match us, hl with | [_, _, _], _ => rfl
  have b24 := D24.F.binds (ps := ["generator", "store"]) fun _ _ _ _ _ _ us hl => match us, hl with | [_, _], _ => rfl
  have b25 := D25.F.binds (ps := ["generator", "store"]) fun _ _ _ _ _ _ us hl => match us, hl with | [_, _], _ => rfl
  have b26 := D26.F.binds (ps := []) fun _ _ _ _ _ _ us hl => match us, hl with | [], _ => rfl
  refine ⟨d27, fun s v => ?_, fun base => ?_⟩
  · obtain ⟨oc, od, kV, doc, pm, an, cdv, ct, osl, rfl, _⟩ := D27.F.ex
    exact .of_eq rfl
  have U0 : ErrUse P w K mg base "InvalidFact" C0 := E0.use it2
  have U1 : ErrUse P w K mg base "InvalidList" C1 := E1.use it3
  have U2 : ErrUse P w K mg base "TooMany" C2 := E2.use it4
  have o1 := ok_spelled (P := P) (w := w) (mg := mg) (base := base) D1.F c0 c1 c2 z2 z3
  have o0 := ok_isWord (P := P) (w := w) (mg := mg) (base := base) D0.F o1 b1 D1.F.kp D1.g z0 z1 c3 cc3
  have o2 := ok_whole (P := P) (w := w) (mg := mg) (base := base) D2.F z0 z4 z5
  have o3 := ok_between (P := P) (w := w) (mg := mg) (base := base) D3.F o2 b2 D2.F.kp D2.g
  have o4 := ok_number (P := P) (w := w) (mg := mg) (base := base) D4.F o3 b3 D3.F.kp D3.g c7
  have o5 := ok_words (P := P) (w := w) (mg := mg) (base := base) D5.F o0 b0 D0.F.kp D0.g z0 z6 z2 z7 z3
  have o6 := ok_marks (P := P) (w := w) (mg := mg) (base := base) D6.F o5 b5 D5.F.kp D5.g c4
  have o7 := ok_columns (P := P) (w := w) (mg := mg) (base := base) D7.F o5 b5 D5.F.kp D5.g c5 z8
  have o8 := ok_numbers (P := P) (w := w) (mg := mg) (base := base) D8.F o4 b4 D4.F.kp D4.g z0 z6 z3
  have o9 := ok_isFact (P := P) (w := w) (mg := mg) (base := base) D9.F o4 b4 D4.F.kp D4.g z0 z9 z2 z3
  have o10 := ok_clash (P := P) (w := w) (mg := mg) (base := base) D10.F 
  have o11 := ok_signs (P := P) (w := w) (mg := mg) (base := base) D11.F o6 b6 D6.F.kp D6.g o7 b7 D7.F.kp D7.g U1
  have o12 := ok_lists (P := P) (w := w) (mg := mg) (base := base) D12.F o11 b11 D11.F.kp D11.g o8 b8 D8.F.kp D8.g U1 z0 z6
  have o13 := ok_make (P := P) (w := w) (mg := mg) (base := base) D13.F o12 b12 D12.F.kp D12.g o9 b9 D9.F.kp D9.g o10 b10 D10.F.kp D10.g U2 U0 c6 z2 z6 z7 z13
  have o14 := ok_hash (P := P) (w := w) (mg := mg) (base := base) D14.F z4
  have o15 := ok_random (P := P) (w := w) (mg := mg) (base := base) D15.F o14 b14 D14.F.kp D14.g z4 z10
  have o16 := ok_cell (P := P) (w := w) (mg := mg) (base := base) D16.F z2 z11
  have o17 := ok_generator (P := P) (w := w) (mg := mg) (base := base) D17.F o16 b16 D16.F.kp D16.g z4 z12
  have o18 := ok_order (P := P) (w := w) (mg := mg) (base := base) D18.F o15 b15 D15.F.kp D15.g z6 z2
  have o19 := ok_pairs (P := P) (w := w) (mg := mg) (base := base) D19.F o18 b18 D18.F.kp D18.g o15 b15 D15.F.kp D15.g z2 z10
  have o20 := ok_items (P := P) (w := w) (mg := mg) (base := base) D20.F o15 b15 D15.F.kp D15.g z10
  have o21 := ok_store (P := P) (w := w) (mg := mg) (base := base) D21.F o20 b20 D20.F.kp D20.g o19 b19 D19.F.kp D19.g o15 b15 D15.F.kp D15.g z13
  have o22 := ok_caught (P := P) (w := w) (mg := mg) (base := base) D22.F o13 b13 D13.F.kp D13.g U1 U2 U0 x0 (exmA_of x1) (kitA_of x2) z14 z0
  have o23 := ok_only (P := P) (w := w) (mg := mg) (base := base) D23.F z10 z14
  have o24 := ok_right (P := P) (w := w) (mg := mg) (base := base) D24.F o15 b15 D15.F.kp D15.g (ok_orderG (P := P) (w := w) (mg := mg) (base := base) D18.F o15 b15 D15.F.kp D15.g z6 z2) b18 D18.F.kp D18.g o13 b13 D13.F.kp D13.g (kb_make D13.F) z14
  have o25 := ok_factRef (P := P) (w := w) (mg := mg) (base := base) D25.F o15 b15 D15.F.kp D15.g o22 b22 D22.F.kp D22.g o23 b23 D23.F.kp D23.g (apartA_of x3) z2
  have o26 := ok_same (P := P) (w := w) (mg := mg) (base := base) D26.F o22 b22 D22.F.kp D22.g
  exact ok_law D27.F o17 b17 D17.F.kp D17.g o21 b21 D21.F.kp D21.g o24 b24 D24.F.kp D24.g o25 b25 D25.F.kp D25.g o22 b22 D22.F.kp D22.g o23 b23 D23.F.kp D23.g o26 b26 D26.F.kp D26.g o13 b13 D13.F.kp D13.g (apartA_of x3) z6 z10
end DQ

open PySem PySem.W PyProof.Rows
set_option maxRecDepth 100000 in
set_option maxHeartbeats 0 in
theorem PySem.Challenge.cw_depthquestions_k03_whole_stores_made_holds : PySem.Challenge.rw_depthquestions_k03_whole_stores_made.Holds := by
  w_on; o_law; k_head; (case hw => w_witness2)
  k_fill
  refine DQ.walkG (l := PySem.Challenge.rw_depthquestions_k03_whole_stores_made) (n := 63) (j := 10) (par := "script") (asks := DQ.spLaw) rfl (by decide) rfl ⟨rfl, by decide, by decide⟩ (fun w h Y => PySem.W.kIn_of Y) ?F (fun K H a ns _ _ hS => ⟨a, ns, rfl, hS, fun _ => rfl⟩)
  case F =>
    intro w mg fa h KX G hmg
    suffices A : ∃ fd : FuncData, (∀ (s : Shared) (v : Value), BindsTo s fd ⟨[v], []⟩ [("script", v)]) ∧ ∀ base : Heap, DQ.FnG (PySem.Challenge.rw_depthquestions_k03_whole_stores_made).prog w _ mg base L2.CX0 10 fa fd ["script"] (DQ.spLaw _) from A.imp fun fd z => ⟨z.1, fun base _ _ => z.2 base⟩
    refine' DQ.all_of hmg
      (DQ.err_mk KX G ?a0 (DQ.cls_mk ?xL0 ?rv0 ?sa0 ?eC0 ?tC0 ?kC0 ?ga0 ?gg0 ?ca0 ?cg0 ?ct0 ?mo0) ?hd0 ?nv0 ?eq0 ?ic0 ?ti0 ?lf0 ?cf0 ?kf0 ?lT0 ?dT0)
      (DQ.err_mk KX G ?a1 (DQ.cls_mk ?xL1 ?rv1 ?sa1 ?eC1 ?tC1 ?kC1 ?ga1 ?gg1 ?ca1 ?cg1 ?ct1 ?mo1) ?hd1 ?nv1 ?eq1 ?ic1 ?ti1 ?lf1 ?cf1 ?kf1 ?lT1 ?dT1)
      (DQ.err_mk KX G ?a2 (DQ.cls_mk ?xL2 ?rv2 ?sa2 ?eC2 ?tC2 ?kC2 ?ga2 ?gg2 ?ca2 ?cg2 ?ct2 ?mo2) ?hd2 ?nv2 ?eq2 ?ic2 ?ti2 ?lf2 ?cf2 ?kf2 ?lT2 ?dT2)
      (PySem.W.mg_of KX G ?gS)
      ?xa
      ?xb
      ?xd
      (DQ.str_mk KX G ?c0 ?e0)
      (DQ.str_mk KX G ?c1 ?e1)
      (DQ.int_mk KX G ?c2 ?e2)
      (DQ.tup_mk KX G ?c3 ?l3 ?t3 ?d3 ?zz3 ?e3)
      (DQ.int_mk KX G ?c4 ?e4)
      (DQ.int_mk KX G ?c5 ?e5)
      (DQ.int_mk KX G ?c6 ?e6)
      (DQ.int_mk KX G ?c7 ?e7)
      (DQ.def_mk KX G ?da0 ?dl0 ?dc0 ?dk0)
      (DQ.def_mk KX G ?da1 ?dl1 ?dc1 ?dk1)
      (DQ.def_mk KX G ?da2 ?dl2 ?dc2 ?dk2)
      (DQ.def_mk KX G ?da3 ?dl3 ?dc3 ?dk3)
      (DQ.def_mk KX G ?da4 ?dl4 ?dc4 ?dk4)
      (DQ.def_mk KX G ?da5 ?dl5 ?dc5 ?dk5)
      (DQ.def_mk KX G ?da6 ?dl6 ?dc6 ?dk6)
      (DQ.def_mk KX G ?da7 ?dl7 ?dc7 ?dk7)
      (DQ.def_mk KX G ?da8 ?dl8 ?dc8 ?dk8)
      (DQ.def_mk KX G ?da9 ?dl9 ?dc9 ?dk9)
      (DQ.def_mk KX G ?da10 ?dl10 ?dc10 ?dk10)
      (DQ.def_mk KX G ?da11 ?dl11 ?dc11 ?dk11)
      (DQ.def_mk KX G ?da12 ?dl12 ?dc12 ?dk12)
      (DQ.def_mk KX G ?da13 ?dl13 ?dc13 ?dk13)
      (DQ.def_mk KX G ?da14 ?dl14 ?dc14 ?dk14)
      (DQ.def_mk KX G ?da15 ?dl15 ?dc15 ?dk15)
      (DQ.def_mk KX G ?da16 ?dl16 ?dc16 ?dk16)
      (DQ.def_mk KX G ?da17 ?dl17 ?dc17 ?dk17)
      (DQ.def_mk KX G ?da18 ?dl18 ?dc18 ?dk18)
      (DQ.def_mk KX G ?da19 ?dl19 ?dc19 ?dk19)
      (DQ.def_mk KX G ?da20 ?dl20 ?dc20 ?dk20)
      (DQ.def_mk KX G ?da21 ?dl21 ?dc21 ?dk21)
      (DQ.def_mk KX G ?da22 ?dl22 ?dc22 ?dk22)
      (DQ.def_mk KX G ?da23 ?dl23 ?dc23 ?dk23)
      (DQ.def_mk KX G ?da24 ?dl24 ?dc24 ?dk24)
      (DQ.def_mk KX G ?da25 ?dl25 ?dc25 ?dk25)
      (DQ.def_mk KX G ?da26 ?dl26 ?dc26 ?dk26)
      (DQ.def_mk KX G ?da27 ?dl27 ?dc27 ?dk27)
      (PySem.W.mg_none_of KX G ?z0)
      (PySem.W.mg_none_of KX G ?z1)
      (PySem.W.mg_none_of KX G ?z2)
      (PySem.W.mg_none_of KX G ?z3)
      (PySem.W.mg_none_of KX G ?z4)
      (PySem.W.mg_none_of KX G ?z5)
      (PySem.W.mg_none_of KX G ?z6)
      (PySem.W.mg_none_of KX G ?z7)
      (PySem.W.mg_none_of KX G ?z8)
      (PySem.W.mg_none_of KX G ?z9)
      (PySem.W.mg_none_of KX G ?z10)
      (PySem.W.mg_none_of KX G ?z11)
      (PySem.W.mg_none_of KX G ?z12)
      (PySem.W.mg_none_of KX G ?z13)
      (PySem.W.mg_none_of KX G ?z14)
    (case a0 => k_is)
    (case xL0 => k_is)
    (case rv0 => decide +kernel)
    (case sa0 => k_is)
    (case eC0 => k_is)
    (case tC0 => k_is)
    (case kC0 => k_is)
    (case ga0 => k_is)
    (case gg0 => k_is)
    (case ca0 => k_is)
    (case cg0 => k_is)
    (case ct0 => k_is)
    (case mo0 => k_is)
    (case hd0 => k_is)
    (case nv0 => k_is)
    (case eq0 => k_is)
    (case ic0 => k_is)
    (case ti0 => k_is)
    (case lf0 => k_is)
    (case cf0 => k_is)
    (case kf0 => k_is)
    (case lT0 => k_is)
    (case dT0 => rfl)
    (case a1 => k_is)
    (case xL1 => k_is)
    (case rv1 => decide +kernel)
    (case sa1 => k_is)
    (case eC1 => k_is)
    (case tC1 => k_is)
    (case kC1 => k_is)
    (case ga1 => k_is)
    (case gg1 => k_is)
    (case ca1 => k_is)
    (case cg1 => k_is)
    (case ct1 => k_is)
    (case mo1 => k_is)
    (case hd1 => k_is)
    (case nv1 => k_is)
    (case eq1 => k_is)
    (case ic1 => k_is)
    (case ti1 => k_is)
    (case lf1 => k_is)
    (case cf1 => k_is)
    (case kf1 => k_is)
    (case lT1 => k_is)
    (case dT1 => rfl)
    (case a2 => k_is)
    (case xL2 => k_is)
    (case rv2 => decide +kernel)
    (case sa2 => k_is)
    (case eC2 => k_is)
    (case tC2 => k_is)
    (case kC2 => k_is)
    (case ga2 => k_is)
    (case gg2 => k_is)
    (case ca2 => k_is)
    (case cg2 => k_is)
    (case ct2 => k_is)
    (case mo2 => k_is)
    (case hd2 => k_is)
    (case nv2 => k_is)
    (case eq2 => k_is)
    (case ic2 => k_is)
    (case ti2 => k_is)
    (case lf2 => k_is)
    (case cf2 => k_is)
    (case kf2 => k_is)
    (case lT2 => k_is)
    (case dT2 => rfl)
    (case gS => k_is)
    (case c0 => k_is)
    (case e0 => decide +kernel)
    (case c1 => k_is)
    (case e1 => decide +kernel)
    (case c2 => k_is)
    (case e2 => rfl)
    (case c3 => k_is)
    (case l3 => k_is)
    (case t3 => rfl)
    (case d3 => rfl)
    (case zz3 => decide +kernel)
    (case e3 => decide +kernel)
    (case c4 => k_is)
    (case e4 => rfl)
    (case c5 => k_is)
    (case e5 => rfl)
    (case c6 => k_is)
    (case e6 => rfl)
    (case c7 => k_is)
    (case e7 => rfl)
    (case da0 => k_is)
    (case dl0 => k_is)
    (case dc0 => k_is)
    (case dk0 => k_is)
    (case da1 => k_is)
    (case dl1 => k_is)
    (case dc1 => k_is)
    (case dk1 => k_is)
    (case da2 => k_is)
    (case dl2 => k_is)
    (case dc2 => k_is)
    (case dk2 => k_is)
    (case da3 => k_is)
    (case dl3 => k_is)
    (case dc3 => k_is)
    (case dk3 => k_is)
    (case da4 => k_is)
    (case dl4 => k_is)
    (case dc4 => k_is)
    (case dk4 => k_is)
    (case da5 => k_is)
    (case dl5 => k_is)
    (case dc5 => k_is)
    (case dk5 => k_is)
    (case da6 => k_is)
    (case dl6 => k_is)
    (case dc6 => k_is)
    (case dk6 => k_is)
    (case da7 => k_is)
    (case dl7 => k_is)
    (case dc7 => k_is)
    (case dk7 => k_is)
    (case da8 => k_is)
    (case dl8 => k_is)
    (case dc8 => k_is)
    (case dk8 => k_is)
    (case da9 => k_is)
    (case dl9 => k_is)
    (case dc9 => k_is)
    (case dk9 => k_is)
    (case da10 => k_is)
    (case dl10 => k_is)
    (case dc10 => k_is)
    (case dk10 => k_is)
    (case da11 => k_is)
    (case dl11 => k_is)
    (case dc11 => k_is)
    (case dk11 => k_is)
    (case da12 => k_is)
    (case dl12 => k_is)
    (case dc12 => k_is)
    (case dk12 => k_is)
    (case da13 => k_is)
    (case dl13 => k_is)
    (case dc13 => k_is)
    (case dk13 => k_is)
    (case da14 => k_is)
    (case dl14 => k_is)
    (case dc14 => k_is)
    (case dk14 => k_is)
    (case da15 => k_is)
    (case dl15 => k_is)
    (case dc15 => k_is)
    (case dk15 => k_is)
    (case da16 => k_is)
    (case dl16 => k_is)
    (case dc16 => k_is)
    (case dk16 => k_is)
    (case da17 => k_is)
    (case dl17 => k_is)
    (case dc17 => k_is)
    (case dk17 => k_is)
    (case da18 => k_is)
    (case dl18 => k_is)
    (case dc18 => k_is)
    (case dk18 => k_is)
    (case da19 => k_is)
    (case dl19 => k_is)
    (case dc19 => k_is)
    (case dk19 => k_is)
    (case da20 => k_is)
    (case dl20 => k_is)
    (case dc20 => k_is)
    (case dk20 => k_is)
    (case da21 => k_is)
    (case dl21 => k_is)
    (case dc21 => k_is)
    (case dk21 => k_is)
    (case da22 => k_is)
    (case dl22 => k_is)
    (case dc22 => k_is)
    (case dk22 => k_is)
    (case da23 => k_is)
    (case dl23 => k_is)
    (case dc23 => k_is)
    (case dk23 => k_is)
    (case da24 => k_is)
    (case dl24 => k_is)
    (case dc24 => k_is)
    (case dk24 => k_is)
    (case da25 => k_is)
    (case dl25 => k_is)
    (case dc25 => k_is)
    (case dk25 => k_is)
    (case da26 => k_is)
    (case dl26 => k_is)
    (case dc26 => k_is)
    (case dk26 => k_is)
    (case da27 => k_is)
    (case dl27 => k_is)
    (case dc27 => k_is)
    (case dk27 => k_is)
    (case z0 => k_is)
    (case z1 => k_is)
    (case z2 => k_is)
    (case z3 => k_is)
    (case z4 => k_is)
    (case z5 => k_is)
    (case z6 => k_is)
    (case z7 => k_is)
    (case z8 => k_is)
    (case z9 => k_is)
    (case z10 => k_is)
    (case z11 => k_is)
    (case z12 => k_is)
    (case z13 => k_is)
    (case z14 => k_is)
    (case xa => kernel_rfl)
    (case xb => kernel_rfl)
    (case xd => kernel_rfl)

